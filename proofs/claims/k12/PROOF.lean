import PyProof.Rows.All
import Wide.All
import OpenK.AllK
import Wide.FinOn
import HandS.Wide
import HandS.Exc
import HandS.ExcOwn
import HandS.TryMany
import HandS.ExcField
import HandS.ExcIs
import HandS.Lambda
import HandS.More
import HandS.Words
import HandS.ExcInit
import HandS.ClsMeth
import KE.KExcInit
import HandS.FStr
import HandS.EndTab
import KE.KNest
import HandS.Head2
import HandS.HeadHook4
import HandS.HeadWalk
import HandS.Defaults
import HandS.ForMost
import HandS.Zip
import KE.GoesMore
import KE.GoesZip
import PySem.Challenge.RW_heedless_k12_whole_purses_judged
import HandS.EndBits
import HandS.IsInst
import HandS.Evl
import HandS.Style
import HandS.Deep
import HandS.Conv
import HandS.MakeKw
import HandS.SetKeys
set_option Elab.async false
set_option linter.all false
set_option maxRecDepth 100000
set_option maxHeartbeats 4000000
namespace Hw
open PySem PySem.Spec PyProof.Rows L2
/-! a tuple of classes, any number of them -/
section
variable {M : Model} {A : Around} {E : Value → Shared → Prop} {s : Shared}
theorem each_passes {f : Value → PUnit → Sem (ForInStep PUnit)} : ∀ {cs : List Value} {Q : PUnit → Shared → Prop}, (∀ c ∈ cs, ∀ R : ForInStep PUnit → Shared → Prop, R (.yield ⟨⟩) s → wpAny M A (f c ⟨⟩) R E s) → Q ⟨⟩ s → wpAny M A (forIn cs PUnit.unit f) Q E s
  | [], Q, _, q => by
    rw [List.forIn_nil]
    exact wpAny_pure q
  | c :: cs, Q, h, q => by
    rw [List.forIn_cons]
    exact wpAny_bind (h c List.mem_cons_self _ (each_passes (fun d hd => h d (List.mem_cons_of_mem _ hd)) q))
theorem one_found {f : Value → Option Bool × Unit → Sem (ForInStep (Option Bool × Unit))} : ∀ {cs : List Value} {bs : List Bool} {Q : Option Bool × Unit → Shared → Prop},
    Paired (fun c b => ∀ (r : Option Bool × Unit) (R : ForInStep (Option Bool × Unit) → Shared → Prop), R (if b = true then .done (some true, ()) else .yield (none, ())) s → wpAny M A (f c r) R E s) cs bs →
    Q (if bs.any id = true then some true else none, ()) s → wpAny M A (forIn cs (none, ()) f) Q E s
  | _, _, Q, .nil, q => by
    rw [List.forIn_nil]
    exact wpAny_pure q
  | _, _, Q, .cons (b := b) h r, q => by
    rw [List.forIn_cons]
    refine wpAny_bind (h _ _ ?_)
    cases b with
    | true => exact wpAny_pure q
    | false => exact one_found r q
end
theorem exmAny_all {K : PySem.W.Frag} {cls : Value} : ∀ {cs : List Value} {b : Bool}, PySem.W.exmAny K cls cs = some b → ∃ bs : List Bool, Paired (fun c b => PySem.W.exmOne K cls c = some b) cs bs ∧ b = bs.any id
  | [], b, h => ⟨[], .nil, (Option.some.inj h).symm⟩
  | c :: cs, b, h => by
    obtain ⟨b1, d1, h1, h2, rfl⟩ := PySem.W.exmAny_cons h
    obtain ⟨bs, p, rfl⟩ := exmAny_all h2
    exact ⟨b1 :: bs, .cons h1 p, rfl⟩
theorem paired_imp {α β : Type} {R S : α → β → Prop} (h : ∀ x y, R x y → S x y) : ∀ {xs : List α} {ys : List β}, Paired R xs ys → Paired S xs ys
  | _, _, .nil => .nil
  | _, _, .cons a b => .cons (h _ _ a) (paired_imp h b)
theorem paired_left {α β : Type} {R : α → β → Prop} {S : α → Prop} (h : ∀ x y, R x y → S x) : ∀ {xs : List α} {ys : List β}, Paired R xs ys → ∀ x ∈ xs, S x
  | _, _, .nil, _, hx => by cases hx
  | _, _, .cons a b, x, hx => by
    rcases List.mem_cons.mp hx with e | e
    · subst e
      exact h _ _ a
    · exact paired_left h b x e
theorem exm_tup {M : Model} {K : PySem.W.Frag} {cs : List Value} {cls : Value} {tp e : Addr} {b : Bool} {h : Heap} (X : K.In h) (LT : PySem.W.Looks M h (typeOf (.ref e)) cls) (hp : h.get? tp = some { cls := .type "tuple", data := .seq cs.toArray }) (hx : PySem.W.exmAny K cls cs = some b) :
    PySem.W.Looks M h (excMatches (.ref e) (.ref tp)) b := by
  intro A Q E s k q
  have tu : PySem.W.Looks M h (isInstance (.ref tp) (.type "tuple")) true := ((PySem.W.Looks.ld hp).andThen .now).andThen (PySem.W.Looks.of_pure isSubtype_tuple_tuple)
  obtain ⟨bs, p, rfl⟩ := exmAny_all hx
  unfold excMatches
  refine wpAny_bind ((tu.keeps k).here ?_)
  dsimp only
  rw [if_pos rfl]
  first
    | refine wpAny_bind (wpAny_seqItems (k _ _ hp) rfl ?_)
    | refine wpAny_bind (wpAny_bind (wpAny_seqItems (k _ _ hp) rfl (wpAny_pure ?_)))
  dsimp only [Option.getD_some, Option.getD]
  refine wpAny_bind (wpAny_pure ?_)
  refine wpAny_bind (each_passes (paired_left (S := fun c => ∀ R : ForInStep PUnit → Shared → Prop, R (.yield ⟨⟩) s → wpAny M A (do
      let __do_lift ← isExcClass c
      if (!__do_lift) = true then do
          rule "try.except-non-exception-class"
          raiseErrorWords "TypeError" "catching classes that do not inherit from BaseException is not allowed"
          pure (ForInStep.yield PUnit.unit)
        else pure (ForInStep.yield PUnit.unit)) R E s) (fun c b hc R r => ?_) p) ?_)
  · refine wpAny_bind (((PySem.W.exm_cls (M := M) X hc).1.keeps k).here ?_)
    rw [if_neg (by decide)]
    exact wpAny_pure r
  refine wpAny_bind ((LT.keeps k).here ?_)
  refine wpAny_bind (one_found (paired_imp (fun c b hc r R q' => ?_) p) ?_)
  · refine wpAny_bind (((PySem.W.exm_cls (M := M) X hc).2.keeps k).here ?_)
    cases b with
    | true => exact wpAny_pure q'
    | false => exact wpAny_pure q'
  cases hb : bs.any id with
  | true =>
    rw [hb] at q
    exact wpAny_pure q
  | false =>
    rw [hb] at q
    exact wpAny_pure q
end Hw

set_option Elab.async false
set_option linter.all false
set_option maxRecDepth 100000
set_option maxHeartbeats 4000000
namespace Hw
open PySem PySem.Spec PyProof.Rows L2
abbrev St := L2.St
/-! a clause's test: a name, or several names in a tuple -/
inductive NmsL (X : Cx) : List Expr → List Value → Prop
  | nil : NmsL X [] []
  | cons {x : Str} {p : Pos} {c : Value} {es : List Expr} {cs : List Value} : Names X x c → NmsL X es cs → NmsL X (.Name x p :: es) (c :: cs)
inductive Tst (X : Cx) : Expr → List Value → Prop
  | one {x : Str} {p : Pos} {c : Value} : Names X x c → Tst X (.Name x p) [c]
  | many {es : List Expr} {k : Nat} {pos : Pos} {cs : List Value} : NmsL X es cs → cs.length ≤ 1000 → Tst X (.Tuple es k pos) cs
section
variable {X : Cx} {a : Addr} {pn pins : List (Addr × Obj)} {σ : St} {H : Hp} {s : Shared}
theorem name_run {x : Str} {p : Pos} {c : Value} {Q E : Value → Shared → Prop} (S : Inv (X.suite a pn) pins σ H s) (n : Names X x c) (q : Q c s) : wpAny (model X.prog X.w) (X.A.mark (some (.ref a))) (eval (.Name x p) X.env) Q E s := by
  obtain ⟨g, d, m | ⟨m, v, nn⟩⟩ := n
  · exact ld_glob (X := X.suite a pn) S g m q d
  · exact ld_blt (X := X.suite a pn) S g m v q nn d
theorem names_run {E : Value → Shared → Prop} {pos : Pos} (S : Inv (X.suite a pn) pins σ H s) : ∀ {es : List Expr} {cs : List Value} {Q : List Value → Shared → Prop}, NmsL X es cs → Q cs s → wpAny (model X.prog X.w) (X.A.mark (some (.ref a))) (spliced (backTo pos (starEach es X.env))) Q E s
  | _, _, Q, .nil, q => wpAny_items_nil q
  | _, _, Q, .cons n r, q => wpAny_items_cons (name_run S n (names_run S r q))
theorem tst_run {t : Expr} {cs : List Value} {cls : Value} {b : Bool} {Q : Bool → Shared → Prop} {E E' : Value → Shared → Prop} (S : Inv (X.suite a pn) pins σ H s) (ts : Tst X t cs) (LT : PySem.W.Looks (model X.prog X.w) s.heap (typeOf (.ref a)) cls) (hx : PySem.W.exmAny X.K cls cs = some b)
    (q : ∀ h', (∀ b o, s.heap.get? b = some o → h'.get? b = some o) → Q b { s with heap := h' }) :
    wpAny (model X.prog X.w) (X.A.mark (some (.ref a))) (eval t X.env) (fun c s₁ => wpAny (model X.prog X.w) (X.A.mark (some (.ref a))) (excMatches (.ref a) c) Q E s₁) E' s := by
  cases ts with
  | one n =>
    obtain ⟨b1, d1, h1, h2, rfl⟩ := PySem.W.exmAny_cons hx
    cases (Option.some.inj h2 : false = d1)
    refine name_run S n ((PySem.W.exm_one (M := model X.prog X.w) S.kIn LT h1).here ?_)
    have := q s.heap fun _ _ e => e
    rw [Bool.or_false] at this
    exact this
  | many n small =>
    refine wpAny_Tuple (names_run S n ⟨Nat.le_of_lt (small1000 small), ?_⟩)
    have kp : ∀ b o, s.heap.get? b = some o → (s.heap.push { cls := .type "tuple", data := .seq cs.toArray }).get? b = some o := fun _ _ e => Heap.get?_push_of_some _ e
    exact (exm_tup (M := model X.prog X.w) (S.kIn.keeps kp) (LT.keeps kp) (Heap.get?_push_size s.heap rfl) hx).here (q _ kp)
end
theorem flying_on {B h h' : Heap} {l : List Env} {e : Addr} {Z : Obj → Prop} (f : HandSPX.FlyingZ B l e Z h) (k : ∀ b o, h.get? b = some o → h'.get? b = some o) : HandSPX.FlyingZ B l e Z h' := by
  obtain ⟨f1, f2, f3, oe, vs, T, oT, ts, he, hz, hd, h1, h2, h3, hT, hdT, hf⟩ := f
  exact ⟨fun b o q => k b o (f1 b o q), f2, f3.of_keeps fun b o q _ => ⟨o, k b o q, rfl⟩, oe, vs, T, oT, ts, k _ _ he, hz, hd, h1, h2, h3, k _ _ hT, hdT, hf⟩
/-! try: body / except (A, B) as n: .. / except C as n: .. -/
abbrev Suit := Addr → Value → Option Addr → TS
/-- the ends of a suite: the name goes -/
def outN (i : Nat) (D : Ends) : Ends := { nx := fun σ' H' => D.nx (σ'.set i none) H', rt := D.rt, bk := fun σ' H' => D.bk (σ'.set i none) H', ct := fun σ' H' => D.ct (σ'.set i none) H' }
def wWhy (K : PySem.W.Frag) (i : Nat) (Wout : WX) (D : Ends) : List (List Value × Suit) → WX
  | [] => Wout
  | (cs, ts) :: r => fun cls d σ H => ∃ b, PySem.W.exmAny K cls cs = some b ∧ (b = true → ∀ a, H a = none → ts a cls d (outN i D) (σ.set i (some (.ref a))) H) ∧ (b = false → wWhy K i Wout D r cls d σ H)
inductive HdsW (X : Cx) (n : Str) : List ExceptHandler → List (List Value × Suit) → Prop
  | nil : HdsW X n [] []
  | cons {t : Expr} {cs : List Value} {ts : Suit} {b₀ : Stmt} {suite : List Stmt} {pos' : Pos} {hds : List ExceptHandler} {l : List (List Value × Suit)} (ht : Tst X t cs)
      (hsu : ∀ (a : Addr) (oe : Obj) (cls : Value) (d : Option Addr) (pn : List (Addr × Obj)), Zc cls d oe → (∃ vs, oe.data = .fields vs) → PSs (X.suite a ((a, oe) :: pn)) (b₀ :: suite) (ts a cls d)) (r : HdsW X n hds l) :
      HdsW X n (.ExceptHandler (some t) (some n) (b₀ :: suite) pos' :: hds) ((cs, ts) :: l)
section
variable {X : Cx} {n : Str} {i : Nat} {body : List Stmt} {h₀ : ExceptHandler} {hds : List ExceptHandler} {l : List (List Value × Suit)} {pos : Pos} {tb : WX → TS} {Wout : WX}
/-- the clauses, one after another, the exception a having landed -/
theorem clauses (hs : X.stack = X.env :: X.outer) (hf : X.env.frame = some X.env.locals) (hN : X.N.Nodup) (hi : X.N[i]? = some n) (hln : X.env.kindOf n = some .local) (tk : Takes X Wout) (ok : X.Ok) {pins : List (Addr × Obj)} {σ : St} {H : Hp} {D : Ends} {a : Addr} {cls : Value} {d : Option Addr} {B : Heap} {sI s' : Shared}
    (J : Inv X pins σ H sI) (nb : ∀ b o, sI.heap.get? b = some o → b ∉ frs X.stack → B.get? b = some o) (na : H a = none) (os : s'.os = sI.os) (ag : AllBare s'.gens) :
    ∀ {hds : List ExceptHandler} {l : List (List Value × Suit)}, HdsW X n hds l → wWhy X.K i Wout D l cls d σ H → ∀ h : Heap, HandSPX.FlyingZ B (X.env :: X.outer) a (Zc cls d) h → sI.heap.UpToSlots h →
      wpAny (model X.prog X.w) X.A (handleBy (.ref a) X.env hds) (SP X pins D) X.xe { s' with heap := h } := by
  have apart : ∀ {h : Heap}, HandSPX.FlyingZ B (X.env :: X.outer) a (Zc cls d) h → a ≠ X.env.locals ∧ a ∉ X.fs := fun {h} fl => by
    obtain ⟨oe, vs, he, _, hd⟩ := fl.there
    have no : a ∉ frs (X.env :: X.outer) := fun hm => by
      obtain ⟨_, o', e', hnf⟩ := fl.2.2.1.mem hm
      rw [he] at e'
      cases e'
      exact hnf _ hd
    refine ⟨fun z => no (List.mem_filterMap.mpr ⟨X.env, List.mem_cons_self, by rw [hf, z]⟩), fun hm => ?_⟩
    obtain ⟨e, he', q⟩ := List.mem_filterMap.mp hm
    exact no (List.mem_filterMap.mpr ⟨e, List.mem_cons_of_mem _ he', q⟩)
  intro hds l hk
  induction hk with
  | nil =>
    intro w h fl up
    refine wpAny_handleBy_nil ?_
    obtain ⟨k1, k2, k3, oe, vs, T, oT, ts', he, hz, hd, h1, hr⟩ := id fl
    unfold PySem.passOn
    refine wpAny_bind (wpAny_field he hd h1 ?_)
    rw [if_neg (show ¬ ((Value.ref T == Value.none) = true) from by simp)]
    have fin : wpAny (model X.prog X.w) X.A (setFlight (.ref a) X.env.frame) (fun _ s4 => wpAny (model X.prog X.w) X.A (throw (.ref a) : Sem Flow) (SP X pins D) X.xe s4) X.xe { s' with heap := h } := by
      rw [hf]
      refine HandSPX.setFlight_upZ fl fun h4 hh4 up4 => wpAny_throw (tk _ _ ?_)
      exact ⟨a, B, sI, pins, σ, H, cls, d, rfl, J, nb, up.trans up4, .inr (.inr (by rw [hs]; exact hh4)), na, os, ag, w⟩
    first
      | exact wpAny_bind (wpAny_pure (wpAny_bind fin))
      | exact wpAny_bind fin
  | @cons t cs ts b₀ suite pos' hds2 l2 ht hsu r ih =>
    intro w h fl up
    obtain ⟨b, hb1, hyes, hno⟩ := w
    obtain ⟨nL, nF⟩ := apart fl
    have J3 : Inv X pins σ H { s' with heap := h } := J.landed nb fl.1 up os ag
    obtain ⟨oe3, vs3, he3, hz3, hd3⟩ := fl.there
    have S3 := J3.suite he3 hd3 na nL nF
    have LT : PySem.W.Looks (model X.prog X.w) h (typeOf (.ref a)) cls := fun A Q E s k q => wpAny_typeOf_ref (k _ _ he3) (by rw [hz3.1]; exact q)
    refine wpAny_handleBy_cons (codeAny_handlers_test (tst_run S3 ht LT hb1 fun h2 k2 => ?_)) (by intro q; cases q)
    have fl2 := flying_on fl k2
    have up2 := up.trans (Heap.UpToSlots.of_keeps k2)
    cases b with
    | false => exact ih (hno rfl) h2 fl2 up2
    | true =>
      refine codeAny_handlers_suite_as ?_
      refine HandSPX.lands_againZ fl2 fun h4 fl4 up4 => ?_
      have J4 : Inv X pins σ H { s' with heap := h4 } := J.landed nb fl4.1 (up2.trans up4) os ag
      obtain ⟨oe4, vs4, he4, hz4, hd4⟩ := fl4.there
      have S4 := J4.suite he4 hd4 na nL nF
      refine store_ok (X := X.suite a ((a, oe4) :: (X.pn ++ pins))) (v := .ref a) S4 hN hi (.inl hln) rfl (fun s5 S5 => ?_) (.inr hln)
      refine wpAny_mono ((hsu a oe4 cls d (X.pn ++ pins) hz4 ⟨_, hd4⟩).run [] s5 _ H _ S5 (hyes rfl a na)) (fun f s6 got => ?_) (fun _ _ z => False.elim z)
      have gone : ∀ {σ6 : St} {H6 : Hp} {Q : Shared → Prop}, Inv (X.suite a ((a, oe4) :: (X.pn ++ pins))) [] σ6 H6 s6 → (∀ s7, Inv X pins (σ6.set i none) H6 s7 → Q s7) →
          wpAny (model X.prog X.w) X.A (do bindName X.env n .none; unbindBehindTheSuite X.env n pos') (fun _ s7 => Q s7) X.xe s6 := fun {σ6 H6 Q} S6 hq => gone_ok (S6.unsuite ok) hN hi hln hq
      match f, got with
      | .next, ⟨σ6, H6, S6, q6⟩ => exact gone S6 fun s7 J7 => ⟨_, _, J7, q6⟩
      | .brk, ⟨σ6, H6, S6, q6⟩ => exact gone S6 fun s7 J7 => ⟨_, _, J7, q6⟩
      | .cont, ⟨σ6, H6, S6, q6⟩ => exact gone S6 fun s7 J7 => ⟨_, _, J7, q6⟩
      | .ret u, ⟨v6, σ6, H6, S6, r6, q6⟩ => exact gone S6 fun s7 J7 => ⟨_, _, _, J7, r6, q6⟩
theorem ps_try_why (hs : X.stack = X.env :: X.outer) (hf : X.env.frame = some X.env.locals) (hN : X.N.Nodup) (hi : X.N[i]? = some n) (hln : X.env.kindOf n = some .local) (tk : Takes X Wout)
    (hb : ∀ (W : WX) (pn : List (Addr × Obj)) (xe : Value → Shared → Prop), Takes (X.tr pn xe) W → PassesOwn (model X.prog X.w) X.A X.env xe → PSs (X.tr pn xe) body (tb W))
    (hh : HdsW X n (h₀ :: hds) l) : PS X (.Try body (h₀ :: hds) [] [] pos) (fun D σ H => tb (wWhy X.K i Wout D l) D σ H) := by
  refine ⟨fun pins s σ H D I h => ?_⟩
  have ok := I.ok
  have hfr : X.A.frames = some (X.env :: X.outer) := by rw [ok.frames, hs]
  refine wpAny_Try_except (wpAny_mono ((hb (wWhy X.K i Wout D l) (X.pn ++ pins) (fun e s₁ => wpAny (model X.prog X.w) X.A (noteFrame e X.env) (fun _ s₂ => wpAny (model X.prog X.w) X.A (setFlight e none) (fun _ s₃ =>
    wpAny (model X.prog X.w) X.A (handleBy e X.env (h₀ :: hds)) (SP X pins D) X.xe s₃) X.xe s₂) X.xe s₁) (fun u s' out => ?_) PassesOwn.looking).run [] s σ H D (I.toTry _) h) (fun f s1 got => ?_) (fun e s1 he => he))
  · obtain ⟨a, B, sI, pins', σ', H', cls, d, rfl, J', nb, up, sky, na, os, ag, w⟩ := out
    show wpAny (model X.prog X.w) X.A (noteFrame (.ref a) X.env) _ _ _
    refine Sky.land Zc.steady hfr hf (by rw [← hs]; exact sky) fun h3 fl3 up3 => ?_
    exact clauses hs hf hN hi hln tk ok (J'.ofTry ok) nb na os ag hh w h3 fl3 (up.trans up3)
  · match f, got with
    | .next, ⟨σ', H', J', q⟩ => exact wpAny_execs_nil ⟨σ', H', J'.ofTry ok, q⟩
    | .brk, ⟨σ', H', J', q⟩ => exact ⟨σ', H', J'.ofTry ok, q⟩
    | .cont, ⟨σ', H', J', q⟩ => exact ⟨σ', H', J'.ofTry ok, q⟩
    | .ret u, ⟨v, σ', H', J', r, q⟩ => exact ⟨v, σ', H', J'.ofTry ok, r, q⟩
end
end Hw

set_option Elab.async false
set_option linter.all false
set_option maxRecDepth 100000
set_option maxHeartbeats 4000000
namespace Hw
open PySem PySem.Spec PyProof.Rows L2
/-- e.f in a suite, e the caught exception's name: the class is told by the reading -/
def tXa (K : PySem.W.Frag) (a : Addr) (cls : Value) (d : Option Addr) (f : Str) (i : Nat) : TE := fun σ H Q => σ[i]? = some (some (.ref a)) ∧ ∃ C, cls = .ref C ∧ XfC K C ∧ PySem.W.findIn K (.ref C) f = some none ∧
  ∃ (dd : Addr) (fs : List (Str × V)) (v : V), d = some dd ∧ H dd = some (.xd fs) ∧ fs.lookup f = some v ∧ Q v H
theorem pe_xa {X : Cx} {a : Addr} {oe : Obj} {cls : Value} {d : Option Addr} {pn : List (Addr × Obj)} {pos p : Pos} {n f : Str} {i : Nat} (hz : Zc cls d oe) (hf : ∃ vs, oe.data = .fields vs) (hN : X.N[i]? = some n) (hv : Vis X.env.scope n)
    (hd : (n == ("__debug__" : Str)) = false := by decide) (hcd : (n == ("__classdict__" : Str)) = false := by decide) (hb : attributeBase (.Name n p) f X.env (eval (.Name n p) X.env) = eval (.Name n p) X.env := by rfl) :
    PE (X.suite a ((a, oe) :: pn)) (.Attribute (.Name n p) f pos) (tXa X.K a cls d f i) := by
  refine ⟨fun pins s σ H Q I h => ?_⟩
  obtain ⟨hs, C, ec, T, no, dd, fs, v, ed, hx, l, q⟩ := h
  exact (pe_xf (X := X) T no hz hf (pe_var (X := X.suite a ((a, oe) :: pn)) (pos := p) (i := i) hN hv hd hcd) hb).run pins s σ H Q I ⟨.ref a, hs, rfl, ec, dd, fs, v, ed, hx, l, q⟩
end Hw

set_option Elab.async false
set_option linter.all false
set_option maxRecDepth 100000
set_option maxHeartbeats 4000000
namespace Hw
open PySem PySem.Spec PyProof.Rows L2
/-! own errors over any built-in class of errors whose stores go the plain way -/
structure Bse (B nw ini : String) (tl : List Value) : Prop where
  fct : ExcBaseFacts B nw ini tl
  pas : ∀ self, refuseLoop self "__setattr__" tl = pure ()
  obj : tl.contains (.type "object") = true
  typ : typeOf (.type B) = pure (.type "type")
abbrev tlV : List Value := [.type "ValueError", .type "Exception", .type "BaseException", .type "object"]
abbrev tlL : List Value := [.type "LookupError", .type "Exception", .type "BaseException", .type "object"]
theorem bseV : Bse "ValueError" "ValueError.__new__" "ValueError.__init__" tlV := ⟨PySem.F.excBase_ValueError, PySem.F.store_ValueError.passes, by decide +kernel, by kernel_rfl⟩
theorem bseL : Bse "LookupError" "LookupError.__new__" "LookupError.__init__" tlL := ⟨PySem.F.excBase_LookupError, PySem.F.store_LookupError.passes, by decide +kernel, by kernel_rfl⟩
/-- own classes ahead of the built-in ones -/
def mroT (cs : List Addr) (tl : List Value) : List Value := cs.map Value.ref ++ tl
theorem mro_pass {tl : List Value} {self : Value} (h : refuseLoop self "__setattr__" tl = pure ()) : ∀ cs : List Addr, refuseLoop self "__setattr__" (mroT cs tl) = pure ()
  | [] => h
  | c :: cs => by
    show refuseLoop self "__setattr__" (.ref c :: mroT cs tl) = _
    rw [refuseLoop_ref]
    exact mro_pass h cs
theorem mro_has {tl : List Value} (x : String) : ∀ cs : List Addr, (mroT cs tl).contains (.type x) = tl.contains (.type x)
  | [] => rfl
  | c :: cs => by
    show (Value.ref c :: mroT cs tl).contains (.type x) = _
    rw [List.contains_cons, mro_has x cs]
    rfl
/-- what the written part says of an own class of errors -/
structure Own (K : PySem.W.Frag) (nw : String) (tl : List Value) (C : Addr) : Prop where
  cls : ∃ nm q N bs cs sn sub ab col dd k0 k1 k2 k3 k5, K.lookup C = some (excClassObj nm q C N bs (mroT cs tl) true sn sub ab col dd k0 k1 k2 k3 k5 nw)
  sa : PySem.W.findIn K (.ref C) "__setattr__" = some (some (.builtin "object.__setattr__"))
  exC : PySem.W.subIn K (.ref C) (.type "BaseException") = some true
  tyC : PySem.W.typeIn K (.ref C) = some (.type "type")
  kC : PySem.W.keepIn K (.ref C) = true
theorem Own.data {K : PySem.W.Frag} {nw : String} {tl : List Value} {C : Addr} (T : Own K nw tl C) : ∃ (cd : ClassData) (cs : List Addr), PySem.W.clsIn K C = some cd ∧ cd.mro = mroT cs tl ∧ cd.hasDict = true := by
  obtain ⟨nm, q, N, bs, cs, sn, sub, ab, col, dd, k0, k1, k2, k3, k5, hC⟩ := T.cls
  refine ⟨{ name := nm, bases := bs, mro := .ref C :: mroT cs tl, ns := N, qualname := q, hasDict := true, slotNames := sn, subclasses := sub, abstract := ab, collection := col, hasDel := false }, C :: cs, ?_, rfl, rfl⟩
  unfold PySem.W.clsIn
  rw [hC] <;> rfl
section
open Builtin Builtin.ObjectAttr
variable {prog : Program} {w : World} {A : Around} {R : Result → Shared → Prop} {hp : Heap} {g : Array GenState} {d : Drawn} {t : Nat} {os : OsState}
/-- a store into such an error: into its dict, or into one that is laid for it -/
theorem put_field {K : PySem.W.Frag} {B nw ini : String} {tl : List Value} {name : Str} {tk : Tok} {v : Value} {x C : Addr} {fv : Array Value} {cd : ClassData} {cs : List Addr} {dc : Option Addr} {od : Option Obj}
    (b : Bse B nw ini tl) (X : K.In hp) (I : PySem.W.InstAt hp x { cls := .ref C, dict := dc, data := .fields fv } C od) (hcd : PySem.W.clsIn K C = some cd) (hm : cd.mro = mroT cs tl) (hh : cd.hasDict = true) (ha : PySem.W.findIn K (.ref C) name = some none)
    (q : (dc = none ∧ ∀ h' tk' dx, (∀ b o, b ≠ x → hp.get? b = some o → h'.get? b = some o) → hp.objs.size ≤ dx → dx ≠ x → h'.get? x = some { cls := .ref C, dict := some dx, data := .fields fv } →
          h'.Ns1 dx (fun y => if y = name then some v else none) → R (.ok (.ret .none)) ⟨h', g, d, tk', os⟩) ∨
        (∃ (dx : Addr) (m0 : Str → Option Value) (nl : List Str), dc = some dx ∧ hp.Ns1 dx m0 ∧ Within m0 nl ∧ nl.length ≤ 1000 ∧
          ∀ h' tk', (∀ b o, b ≠ dx → hp.get? b = some o → h'.get? b = some o) → h'.Ns1 dx (fun y => if y = name then some v else m0 y) → R (.ok (.ret .none)) ⟨h', g, d, tk', os⟩)) :
    codeAny (model prog w) A (.call (.builtin "object.__setattr__") ⟨[.ref x, .str name tk, v], []⟩) R ⟨hp, g, d, t, os⟩ := by
  have full : cd.mro.isEmpty = false := by
    have o : cd.mro.contains (.type "object") = true := by rw [hm, mro_has, b.obj]
    cases e : cd.mro with
    | nil => rw [e] at o; exact absurd o (by decide)
    | cons _ _ => rfl
  have hob : cd.mro.contains (.type "object") = true := by rw [hm, mro_has, b.obj]
  have SF := PySem.F.store_object
  have sub : PySem.W.Looks (model prog w) hp (isInstance (.ref x) (.type "object")) true := by
    refine I.type.andThen (PySem.W.looks_mroIn X ?_)
    unfold PySem.W.mroIn
    rw [hcd, Option.bind_some, if_neg (by rw [full]; decide), hob]
  refine codeAny_call_builtin SF.slot.plain SF.entry ?_
  refine @PySem.W.check_slot (model prog w) _ _ ⟨hp, g, d, t, os⟩ "object.__setattr__" "object" "__setattr__" (.ref x) [.str name tk, v] [] _ SF.kind SF.split sub (SF.args (.ref x) (.str name tk) v) ?_
  have mr : PySem.W.Looks (model prog w) hp (mroOf (.ref C)) cd.mro := (PySem.W.looks_clsIn X hcd).andThen .now
  have cl : PySem.W.Looks (model prog w) hp (classData C) cd := PySem.W.looks_clsIn X hcd
  have tn : PySem.W.Looks (model prog w) hp (storeTaker? none) none := .now
  rw [PySem.W.osa_eq, refuse_eq]
  refine wpAny_bind (wpAny_bind (I.type.at (wpAny_bind (mr.at ?_))))
  rw [hm, mro_pass (b.pas _)]
  refine wpAny_pure (wpAny_bind (I.type.at ?_))
  refine wpAny_bind ((PySem.W.looks_findIn X ha).at ?_)
  refine wpAny_bind (tn.at ?_)
  show wpAny _ _ (storeInOwnDict (.ref x) (.ref C) (.str name tk) name v false) _ _ _
  obtain ⟨nm, bs, mro, ns, qn, hd, sn, sb, ab, col, del⟩ := cd
  dsimp only at hh
  subst hh
  have hx := I.at_
  unfold storeInOwnDict ownDictForStores
  rcases q with ⟨rfl, q⟩ | ⟨dx, m0, nl, rfl, hn, hw, hz, q⟩
  · have hxs : x ≠ hp.objs.size := Nat.ne_of_lt (Heap.lt_size hx)
    repeat (first | with_reducible refine PySem.HandSPX.store_in_new ?_ ?_ | with_reducible refine wpAny_loadPart_at hx ?_ | with_reducible refine cl.at ?_ | wp_step)
    · exact ⟨_, #[], _, (Heap.get?_update_ne _ _ _ _ hxs.symm).trans (Heap.get?_push_at rfl rfl), rfl, fun e he => absurd he (by simp), fun _ => rfl⟩
    · intro h' tk' hn' hs
      have hx1 := Heap.get?_push_of_some { cls := .type "dict", data := .dict #[] } hx
      refine q h' tk' hp.objs.size (fun c o hc ho => ?_) (Nat.le_refl _) hxs.symm ((hs.2 x hxs).trans (Heap.get?_update_self _ hx1 rfl)) hn'
      rw [hs.2 c (Nat.ne_of_lt (Heap.lt_size ho)), Heap.get?_update_ne _ _ _ _ hc]
      exact Heap.get?_push_of_some _ ho
  · repeat (first | with_reducible refine PySem.OEX.store_in_old hn hw hz ?_ | with_reducible refine wpAny_loadPart_at hx ?_ | with_reducible refine cl.at ?_ | wp_step)
    intro h' tk' hn' hs
    exact q h' tk' (fun c o hc ho => by rw [hs.2 c hc]; exact ho) hn'
end
section
variable {X : Cx} {pins : List (Addr × Obj)} {σ : L2.St} {H : Hp} {s : Shared} {a C dx : Addr} {f : Str} {y : V} {u : Value} {fs : List (Str × V)} {B nw ini : String} {tl : List Value}
/-- the dict that the first store lays -/
theorem laid_dict {h' : Heap} {t' : Nat} {mA : Str → Option Value} (I : Inv X pins σ H s) (e : H a = some (exo a C none)) (keep : ∀ b o, b ≠ a → s.heap.get? b = some o → h'.get? b = some o) (dn : s.heap.objs.size ≤ dx) (dne : dx ≠ a)
    {t1 : Addr} (hx : h'.get? a = some ({ cls := .ref C, dict := some dx, data := .fields #[.ref t1, .none, .none, .none, .bool false, .none] } : Obj)) (hn : h'.Ns1 dx mA) (r : ∀ g, RelO (fs.lookup g) (mA g)) :
    H dx = none ∧ Inv X pins σ (upd (upd H dx (exd dx fs)) a (exo a C (some dx))) { s with heap := h', toks := t' } := by
  have free : H dx = none := I.hok.fresh dn
  obtain ⟨hp, gs, dr, tk, os⟩ := s
  have off : ∀ {b : Addr} {o : Obj}, hp.get? b = some o → b ≠ dx := fun {b o} z => Nat.ne_of_lt (Nat.lt_of_lt_of_le (Heap.lt_size z) dn)
  have nota : ∀ {b : Addr}, H b = none → b ≠ a := fun {b} n z => by
    rw [z, e] at n
    cases n
  have stays : ∀ {b : Addr} {o : HO}, H b = some o → exo a C none ≠ o → upd (upd H dx (exd dx fs)) a (exo a C (some dx)) b = some o := fun {b o} z n => by
    rw [upd_ne (at_ne e z n), upd_ne (ne_of_none z free)]
    exact z
  refine ⟨free, I.un (t' := t') (h' := h') ?_ ?_⟩
  · refine { keep := fun b o z n _ _ => keep b o (nota n) z, slot := fun b o z n _ _ => ⟨o.slots, keep b o (nota n) z⟩, free := ?_, there := ?_, tups := fun b xs z => stays z exo_tup, frzs := fun b o v z => stays z exo_frz, tbls := fun b ps z => ⟨#[], ?_⟩ }
    · intro b o z n _
      rw [upd_ne (nota n), upd_ne (off z)]
      exact n
    · intro b o z _
      by_cases hb : b = a
      · subst hb
        exact ⟨_, hx⟩
      · exact ⟨o, keep b o hb z⟩
    · rw [stays z exo_tbl]
      simp
  · intro b o z
    by_cases hb : b = a
    · subst hb
      rw [upd_same] at z
      cases z
      exact exo_ok hx
    rw [upd_ne hb] at z
    by_cases hd : b = dx
    · subst hd
      rw [upd_same] at z
      cases z
      exact exd_ok hn r
    rw [upd_ne hd] at z
    refine (I.hok b o z).stay (fun c v hc w => keep c v ?_ w) (fun c hc => stays hc exo_own) (fun c xs hc => stays hc exo_tup)
    rcases hc with hc | hc
    · rw [hc]
      exact hb
    · exact at_ne e hc exo_own
variable {Q : Unit → Shared → Prop} {E : Value → Shared → Prop} {A : Around}
theorem store_first (b : Bse B nw ini tl) (T : Own X.K nw tl C) (I : Inv X pins σ H s) (e : H a = some (exo a C none)) (no : PySem.W.findIn X.K (.ref C) f = some none) (ry : RelV y u)
    (h : ∀ dx s', H dx = none → dx ≠ a → Inv X pins σ (upd (upd H dx (exd dx [(f, y)])) a (exo a C (some dx))) s' → Q () s') : wpAny (model X.prog X.w) A (setAttr (.ref a) f u) Q E s := by
  obtain ⟨cd, cs, hcd, hm, hh⟩ := T.data
  obtain ⟨t1, ho⟩ := exo_at I.hok e
  have I0 := I
  obtain ⟨hp, gs, dr, tk, os⟩ := s
  have J : PySem.W.InstAt hp a ({ cls := .ref C, dict := none, data := .fields #[.ref t1, .none, .none, .none, .bool false, .none] } : Obj) C none := ⟨ho, rfl, rfl, trivial⟩
  refine PySem.W.set_plain I.kIn J T.sa (put_field b I.kIn J hcd hm hh no (.inl ⟨rfl, fun h' tk' dx k dn dne hx hn => ?_⟩))
  obtain ⟨fr, K'⟩ := laid_dict (t' := tk') (fs := [(f, y)]) I0 e k dn dne hx hn (relO_put (fs := []) ry fun g => True.intro)
  exact h dx _ fr dne K'
theorem store_more (b : Bse B nw ini tl) (T : Own X.K nw tl C) (I : Inv X pins σ H s) (e : H a = some (exo a C (some dx))) (ed : H dx = some (exd dx fs)) (hl : fs.length ≤ 900) (no : PySem.W.findIn X.K (.ref C) f = some none) (ry : RelV y u)
    (h : ∀ s', Inv X pins σ (upd H dx (exd dx ((f, y) :: fs))) s' → Q () s') : wpAny (model X.prog X.w) A (setAttr (.ref a) f u) Q E s := by
  obtain ⟨cd, cs, hcd, hm, hh⟩ := T.data
  obtain ⟨t1, ho⟩ := exo_at I.hok e
  obtain ⟨mA, hns, rel⟩ := exd_at I.hok ed
  have hw := within_of rel
  have I0 := I
  obtain ⟨hp, gs, dr, tk, os⟩ := s
  obtain ⟨oD, _, _, hoD, _, _⟩ := hns.count hw
  have J : PySem.W.InstAt hp a ({ cls := .ref C, dict := some dx, data := .fields #[.ref t1, .none, .none, .none, .bool false, .none] } : Obj) C (some oD) := ⟨ho, rfl, rfl, hoD⟩
  refine PySem.W.set_plain I.kIn J T.sa (put_field b I.kIn J hcd hm hh no (.inr ⟨dx, mA, _, rfl, hns, hw, by rw [List.length_map]; omega, fun h' tk' k hn => ?_⟩))
  have there : ∃ o, h'.get? dx = some o := let ⟨o, _, _, e', _⟩ := hn; ⟨o, e'⟩
  exact h _ (I0.write (t' := tk') (x := dx) (e := dx) (o := exd dx ((f, y) :: fs)) (by rw [ed]; exact True.intro) (.inl rfl) k there (exd_ok hn (relO_put ry rel)))
/-- the built-in class's __init__: nothing of it is told -/
theorem base_init {us : List Value} {Q : Value → Shared → Prop} (b : Bse B nw ini tl) (T : Own X.K nw tl C) (I : Inv X pins σ H s) (e : H a = some (exo a C none)) (hl : us.length ≤ sizeLine) (h : ∀ s', Inv X pins σ H s' → Q .none s') :
    wpAny (model X.prog X.w) A (call (.builtin ini) (.ref a :: us)) Q E s := by
  obtain ⟨nm, q, N, bs, cs, sn, sub, ab, col, dd, k0, k1, k2, k3, k5, hC⟩ := T.cls
  obtain ⟨t1, ho⟩ := exo_at I.hok e
  obtain ⟨hp, gs, dr, tk, os⟩ := s
  refine wpAny_call (PySem.HandSPX.init_base b.fct (fun Y => mro_has Y cs) (I.kIn _ _ hC) ho hl fun h' t2 k hx => ?_)
  have J := I.write (t' := tk) (x := a) (e := a) (o := exo a C none) (by rw [e]; exact True.intro) (.inl rfl) k ⟨_, hx⟩ (exo_ok hx)
  have same : upd H a (exo a C none) = H := funext fun c => by
    by_cases hc : c = a
    · rw [hc, upd_same, e]
    · rw [upd_ne hc]
  rw [same] at J
  exact h _ J
end
/-! readings -/
def tBi (K : PySem.W.Frag) (nw : String) (tl : List Value) (ta : TA) : TE := fun σ H Q => ta σ H fun vs H1 => ∃ (a C : Addr) (ws : List V), vs = .ref a :: ws ∧ ws.length ≤ 1000 ∧ Own K nw tl C ∧ H1 a = some (exo a C none) ∧ Q .non H1
def tSt (K : PySem.W.Frag) (nw : String) (tl : List Value) (f : Str) (to te : TE) : TS := fun D σ H => te σ H fun y H1 => to σ H1 fun x H2 => ∃ a C : Addr, x = .ref a ∧ Own K nw tl C ∧ PySem.W.findIn K (.ref C) f = some none ∧
  ((H2 a = some (exo a C none) ∧ ∀ dx, H2 dx = none → dx ≠ a → D.nx σ (upd (upd H2 dx (exd dx [(f, y)])) a (exo a C (some dx)))) ∨
    ∃ (dx : Addr) (fs : List (Str × V)), H2 a = some (exo a C (some dx)) ∧ H2 dx = some (exd dx fs) ∧ fs.length ≤ 900 ∧ D.nx σ (upd H2 dx (exd dx ((f, y) :: fs))))
section
variable {X : Cx} {o e : Expr} {es : List Expr} {to te : TE} {ta : TA} {f : Str} {p p' p1 p2 pos : Pos} {B nw ini : String} {tl : List Value}
/-- B.__init__(self, ..), B the built-in class -/
theorem pe_binit {x : Str} {pl : Sem Bool} (b : Bse B nw ini tl) (hx : bootBuiltins x = some (.type B)) (hg : Gl X x) (hm : X.mg x = none) (vB : PySem.W.findCls X.K (.type B) (.type "type") "__init__" = some (.val (.builtin ini))) (ha : PA X (e :: es) ta)
    (hn : x ≠ "__name__" := by decide) (hd : (x == ("__debug__" : Str)) = false := by decide) (st : Manifest.isStub B = false := by decide +kernel) (hh : PySem.W.handedIn (.builtin ini) = true := by decide +kernel)
    (hc : eval (.Call (.Attribute (.Name x p1) "__init__" p2) (e :: es) [] pos) X.env = (do
      let cls ← eval (.Name x p1) X.env
      standAt p2.atName
      let (f, first) ← holding [cls] (getMethod cls "__init__" pl)
      callWith pos f first (backTo pos (starEach (e :: es) X.env)) (backToKw pos (keywordEach [] X.env))) := by rfl)
    (he : starEach (e :: es) X.env = (false, eval e X.env) :: starEach es X.env := by rfl) (hpl : (backTo pos (starEach es X.env)).any (·.1) = false := by rfl) :
    PE X (.Call (.Attribute (.Name x p1) "__init__" p2) (e :: es) [] pos) (tBi X.K nw tl ta) := by
  refine ⟨fun pins s σ H Q I h => ?_⟩
  obtain ⟨m, fr⟩ := I.fr
  refine PySem.W.methodCall_KW (ld_blt I hg hm hx (PySem.W.method_type fr I.ok.mod.kin b.typ st vB hh ?_) hn hd) hc
  show wpAny _ _ (callWith pos (Value.builtin ini) [] (backTo pos (starEach (e :: es) X.env)) []) _ _ _
  refine PyProof.Rows.callWith_method1 (thn (ha.run pos pins _ σ H _ (I.tok _) h) ?_) he hpl
  rintro us s1 ⟨vs, H1, I1, r1, a, C, ws, rfl, hl, T, ea, q⟩
  match r1 with
  | .cons (b := u0) (l₂ := ur) ra rw' =>
    cases (show u0 = Value.ref a from ra)
    exact base_init b T I1 ea (by rw [← Paired.length rw', sizeLine_eq]; omega) fun s' J => ⟨.non, H1, J, rfl, q⟩
/-- self.f = e -/
theorem ps_st (b : Bse B nw ini tl) (ho : PE X o to) (he : PE X e te) (hs : swapsWith e (some (.Attribute o f p')) pos.line X.env = pure false := by rfl) : PS X (.Assign [.Attribute o f p'] e pos) (tSt X.K nw tl f to te) := by
  refine ⟨fun pins s σ H D I h => plainObj_wpAny_Assign_Attribute (thn (he.run pins s σ H _ I h) ?_) hs⟩
  rintro v s1 ⟨y, H1, I1, r1, q1⟩
  refine thn (ho.run pins s1 σ H1 _ I1 q1) ?_
  rintro u s2 ⟨x, H2, I2, r2, a, C, rfl, T, no, q⟩
  cases (show u = Value.ref a from r2)
  rcases q with ⟨ea, q⟩ | ⟨dx, fs, ea, ed, hl, q⟩
  · exact store_first b T I2 ea no r1 fun dx s' n ne J => ⟨σ, _, J, q dx n ne⟩
  · exact store_more b T I2 ea ed hl no r1 fun s' J => ⟨σ, _, J, q⟩
section
variable {CX : CXT} {x : Str} {C fI : Addr} {k : Nat} {fd : FuncData} {ps : List Str} {sp : Sp}
/-- the made error, its __init__ having run -/
theorem made_run {pins : List (Addr × Obj)} {σ : L2.St} {H1 : Hp} {Q : XK} {s1 : Shared} {us : List Value} {vs : List V} (b : Bse B nw ini tl) (T : Own X.K nw tl C) (iC : PySem.W.findIn X.K (.ref C) "__init__" = some (some (.ref fI))) (tI : PySem.W.typeIn X.K (.ref fI) = some (.type "function"))
    (G : FnOk X.prog X.w X.K X.mg X.base CX k fI fd ps sp) (hr : Room (k + 1) X.A) (hb : Binds X.K fd ps []) (hx : Passes CX X (fun _ _ _ => False)) (I1 : Inv X pins σ H1 s1) (r1 : Vals vs us) (hz : vs.length ≤ 1000)
    (q1 : ∀ a, H1 a = none → sp (.ref a :: vs) (upd H1 a (exo a C none)) (fun v H2 => v = .non ∧ ∃ (d : Addr) (fs : List (Str × V)), H2 a = some (exo a C (some d)) ∧ H2 d = some (exd d fs) ∧ H1 d = none ∧ Q (.ref C) (some d) (upd (del H2 a) d (.xd fs))) (fun _ _ _ => False)) :
    wpAny (model X.prog X.w) X.A (call (.ref C) us) (MkP X pins σ Q) X.xe s1 := by
  obtain ⟨nm, q, N, bs, cs, sn, sub, ab, col, dd, k0, k1, k2, k3, k5, hC⟩ := T.cls
  obtain ⟨hp, gs, dr, tk, os⟩ := s1
  have hsz : hp.objs.size ≤ hp.objs.size + 1 := Nat.le_succ _
  have want := q1 (hp.objs.size + 1) (I1.hok.fresh hsz)
  generalize hh2 : (hp.push (PySem.W.kdv_tup us)).push (PySem.HandSPX.excO C hp.objs.size) = h2
  have kk : ∀ c o, hp.get? c = some o → h2.get? c = some o := fun c o e => by
    rw [← hh2]
    exact Heap.get?_push_of_some _ (Heap.get?_push_of_some _ e)
  have there : h2.get? (hp.objs.size + 1) = some (PySem.HandSPX.excO C hp.objs.size) := by
    rw [← hh2]
    heap_get
  have I2 : Inv X pins σ (upd H1 (hp.objs.size + 1) (exo (hp.objs.size + 1) C none)) ⟨h2, gs, dr, tk, os⟩ := I1.laid (t' := tk) (h' := h2) kk hsz (exo_ok there)
  have r2 : Vals (V.ref (hp.objs.size + 1) :: vs) (Value.ref (hp.objs.size + 1) :: us) := .cons rfl r1
  have hl : (Value.ref (hp.objs.size + 1) :: us).length = ps.length := (Paired.length r2).symm.trans (G.len _ _ _ _ want)
  have few : us.length ≤ sizeLine := by rw [← Paired.length r1, sizeLine_eq]; omega
  refine wpAny_call (PySem.HandSPX.call_own b.fct (fun Y => mro_has Y cs) (I1.kIn _ _ hC) (PySem.W.looks_findIn I1.kIn iC) (fun self => PySem.W.bind_fn I1.kIn self tI) few ?_)
  rw [hh2]
  have bt := hb ⟨h2, gs, dr, tk, os⟩ (Value.ref (hp.objs.size + 1) :: us) I2.kIn (by rw [List.append_nil]; exact hl)
  rw [List.append_nil] at bt
  refine codeAny_mono (G.run _ X.stack _ _ ⟨Value.ref (hp.objs.size + 1) :: us, []⟩ _ _ _ (fun _ _ _ => False) (hr.make C us []) (I2.env0.make C us []) bt r2 want) fun r s' got => ?_
  match r, got with
  | .error er, got => exact hx pins σ _ _ er s' I2 got
  | .ok (.ret u), got =>
    obtain ⟨v, H2, os2, bare2, un2, hok2, rv, ev, d, fs, ea, ed, hd1, q2⟩ := got
    subst ev
    obtain ⟨hh, g2, d2, t2, os'⟩ := s'
    exact ⟨rv, mk_end (raises_own T.exC T.tyC) I1 hsz kk un2 hok2 os2 bare2 ea ed hd1 q2⟩
  | .ok .next, got => exact False.elim got
  | .ok .brk, got => exact False.elim got
  | .ok .cont, got => exact False.elim got
/-- C(e, ..) -/
theorem pmk_err (b : Bse B nw ini tl) (T : Own X.K nw tl C) (iC : PySem.W.findIn X.K (.ref C) "__init__" = some (some (.ref fI))) (tI : PySem.W.typeIn X.K (.ref fI) = some (.type "function"))
    (G : FnOk X.prog X.w X.K X.mg X.base CX k fI fd ps sp) (hr : Room (k + 1) X.A) (hb : Binds X.K fd ps []) (hx : Passes CX X (fun _ _ _ => False)) (hg : Gl X x) (hm : X.mg x = some (.ref C)) (ha : PA X (e :: es) ta)
    (hd : (x == ("__debug__" : Str)) = false := by decide) (he : starEach (e :: es) X.env = (false, eval e X.env) :: starEach es X.env := by rfl) (hpl : (backTo pos (starEach es X.env)).any (·.1) = false := by rfl) :
    PMk X (.Call (.Name x p) (e :: es) [] pos) (tMkO C sp [] ta) := by
  intro pins s σ H Q I h
  refine wpAny_Call_Name_kw (ld_glob I hg hm ?_ hd)
  refine PySem.W.callWith_K (h₀ := X.base) I.ok.mod.kin T.kC (thn (ha.run pos pins s σ H _ I h) ?_) he hpl
  rintro us s1 ⟨vs, H1, I1, r1, hz, q1⟩
  refine ⟨I1.kIn, ?_⟩
  show wpAny _ _ (call (.ref C) us) _ _ _
  refine made_run b T iC tI G hr hb hx I1 r1 hz fun a na => ?_
  have := q1 a na
  rw [List.append_nil] at this
  exact this
/-- C() -/
theorem pmk_err0 (b : Bse B nw ini tl) (T : Own X.K nw tl C) (iC : PySem.W.findIn X.K (.ref C) "__init__" = some (some (.ref fI))) (tI : PySem.W.typeIn X.K (.ref fI) = some (.type "function"))
    (G : FnOk X.prog X.w X.K X.mg X.base CX k fI fd ps sp) (hr : Room (k + 1) X.A) (hb : Binds X.K fd ps []) (hx : Passes CX X (fun _ _ _ => False)) (hg : Gl X x) (hm : X.mg x = some (.ref C)) (hd : (x == ("__debug__" : Str)) = false := by decide) :
    PMk X (.Call (.Name x p) [] [] pos) (tMkO C sp [] tNil) := by
  intro pins s σ H Q I h
  obtain ⟨_, q1⟩ := h
  refine wpAny_Call_Name_kw (ld_glob I hg hm ?_ hd)
  refine PySem.W.callWith_K0 I.kIn T.kC ?_
  show wpAny _ _ (call (.ref C) []) _ _ _
  exact made_run b T iC tI G hr hb hx I .nil (Nat.zero_le _) q1
end
end
end Hw

set_option Elab.async false
set_option linter.all false
set_option maxRecDepth 100000
set_option maxHeartbeats 4000000
namespace Hw
open PySem PySem.Spec PyProof.Rows L2
/-! C.m(e, ..): a def of a class, called off the class -/
section
variable {X : Cx} {CX : CXT} {k : Nat} {f C : Addr} {fd : FuncData} {ps : List Str} {sp : Sp} {dvs : List V} {ds : List Value} {E : XK} {x m : Str} {p1 p2 pos : Pos} {e : Expr} {es : List Expr} {t : TA} {mc : Value} {pl : Sem Bool}
theorem pe_callC (r : ClX.CRead X.K C mc) (c : ClX.CVal X.K C mc m (.ref f) (.ref f)) (F : FnOk X.prog X.w X.K X.mg X.base CX k f fd ps sp) (hr : Room k X.A)
    (hg : Gl X x) (hm : X.mg x = some (.ref C)) (hk : PySem.W.keepIn X.K (.ref f) = true) (hb : Binds X.K fd ps ds) (hd : Vals dvs ds) (hx : Passes CX X E) (ha : PA X (e :: es) t)
    (hdb : (x == ("__debug__" : Str)) = false := by decide)
    (he : starEach (e :: es) X.env = (false, eval e X.env) :: starEach es X.env := by rfl) (hpl : (backTo pos (starEach es X.env)).any (·.1) = false := by rfl)
    (ht : eval (.Call (.Attribute (.Name x p1) m p2) (e :: es) [] pos) X.env = (do
      let cls ← eval (.Name x p1) X.env
      standAt p2.atName
      let (f, first) ← holding [cls] (getMethod cls m pl)
      callWith pos f first (backTo pos (starEach (e :: es) X.env)) (backToKw pos (keywordEach [] X.env))) := by rfl) :
    PE X (.Call (.Attribute (.Name x p1) m p2) (e :: es) [] pos) (tCall sp dvs E t) := by
  constructor
  intro pins s σ H Q I h
  refine PySem.W.methodCall_KW (pl := pl) (ld_glob I hg hm ?_ hdb) ht
  refine PySem.W.method_cls I.kIn r.ga (ClX.getcval_ok I r c fun s' J => ?_)
  refine PySem.W.callWith_K (h₀ := X.base) (first := []) J.ok.mod.kin hk (thn (ha.run pos pins s' σ H _ J h) ?_) he hpl
  rintro us s1 ⟨vs, H1, I1, rv, q⟩
  exact ⟨I1.kIn, run_fn F hr hb hd hx I1 rv q⟩
end
/-! what the __init__ of an error leaves -/
/-- v, told as a text -/
inductive ArgT : V → Str → Prop
  | str (y : Str) (h : (reprText y).length ≤ 200) : ArgT (.str y) (reprText y)
  | int (i : Int) (h : i.natAbs < 2 ^ 100) : ArgT (.int i) (toString i)
theorem ArgT.len {v : V} {y : Str} (h : ArgT v y) : y.length ≤ 200 := by
  cases h with
  | str y h => exact h
  | int i h =>
    have lg : i.natAbs.log2 < 100 := by
      by_cases z : i.natAbs = 0
      · rw [z]; decide
      · exact (Nat.log2_lt z).mpr h
    have : (Str.ofString (toString i)).length ≤ 101 := by
      rw [PySem.ofString_length]
      exact int_text_length_le (by decide) lg
    exact Nat.le_trans this (by decide)
theorem ArgT.fmt {H1 : Hp} {v : V} {y : Str} {Q : VK} (h : ArgT v y) (q : Q (.str y) H1) : (∃ y : Str, v = .str y ∧ (reprText y).length ≤ sizeLine ∧ Q (.str (reprText y)) H1) ∨ ∃ i : Int, v = .int i ∧ i.natAbs.log2 < 1920 ∧ Q (.str (toString i)) H1 := by
  have l := h.len
  cases h with
  | str y h => exact .inl ⟨y, rfl, Nat.le_trans h (by decide +kernel), q⟩
  | int i h =>
    refine .inr ⟨i, rfl, ?_, q⟩
    by_cases z : i.natAbs = 0
    · rw [z]; decide
    · exact Nat.lt_trans ((Nat.log2_lt z).mpr h) (by decide)
theorem fmtR_var {i : Nat} {σ : L2.St} {H : Hp} {v : V} {y : Str} {Q : VK} (h : ArgT v y) (hs : σ[i]? = some (some v)) (q : Q (.str y) H) : tFmtR (tVar i) σ H Q := ⟨v, hs, ArgT.fmt h q⟩
def NoF (K : PySem.W.Frag) (C : Addr) (fs : List (Str × V)) : Prop := ∀ p ∈ fs, PySem.W.findIn K (.ref C) p.1 = some none
/-- of the two upper classes: word, about -/
def spBase (K : PySem.W.Frag) (nw : String) (tl : List Value) : Sp := fun vs H Q _ => ∃ (a C : Addr) (wd ab : Str), vs = [.ref a, .str wd, .str ab] ∧ wd.length + ab.length ≤ 1000 ∧ Own K nw tl C ∧ PySem.W.findIn K (.ref C) "word" = some none ∧ H a = some (exo a C none) ∧
  ∀ dx, H dx = none → dx ≠ a → Q .non (upd (upd H dx (exd dx [("word", .str wd)])) a (exo a C (some dx)))
/-- of a class below: its fields, the latest first -/
def spErr (K : PySem.W.Frag) (nw : String) (tl : List Value) (n : Nat) (fs : List V → List (Str × V)) : Sp := fun vs H Q _ => ∃ (a C : Addr) (ws : List V), vs = .ref a :: ws ∧ ws.length = n ∧ (∀ v ∈ ws, ∃ y, ArgT v y) ∧ Own K nw tl C ∧ NoF K C (fs ws) ∧ H a = some (exo a C none) ∧
  ∀ dx, H dx = none → dx ≠ a → Q .non (upd (upd H dx (exd dx (fs ws))) a (exo a C (some dx)))
theorem upd_back {H : Hp} {a dx : Addr} {x y z : HO} (n : dx ≠ a) : upd (upd (upd H dx x) a y) dx z = upd (upd H dx z) a y := by
  funext b
  by_cases h1 : b = dx
  · subst h1
    rw [upd_same, upd_ne n, upd_same]
  · rw [upd_ne h1]
    by_cases h2 : b = a
    · subst h2
      rw [upd_same, upd_same]
    · rw [upd_ne h2, upd_ne h2, upd_ne h1, upd_ne h1]
/-- C(..), as raise asks it -/
theorem err_end {K : PySem.W.Frag} {nw : String} {tl : List Value} {n : Nat} {fs : List V → List (Str × V)} {C : Addr} {ws : List V} {H : Hp} {Q : XK} (hl : ws.length = n) (few : n ≤ 1000) (ar : ∀ v ∈ ws, ∃ y, ArgT v y) (T : Own K nw tl C) (nf : NoF K C (fs ws)) (q : ∀ d, H d = none → Q (.ref C) (some d) (upd H d (.xd (fs ws)))) :
    ws.length ≤ 1000 ∧ ∀ a, H a = none → spErr K nw tl n fs (.ref a :: (ws ++ [])) (upd H a (exo a C none)) (fun v H2 => v = .non ∧ ∃ (d : Addr) (fs : List (Str × V)), H2 a = some (exo a C (some d)) ∧ H2 d = some (exd d fs) ∧ H d = none ∧ Q (.ref C) (some d) (upd (del H2 a) d (.xd fs))) (fun _ _ _ => False) := by
  refine ⟨by omega, fun a na => ⟨a, C, ws, by rw [List.append_nil], hl, ar, T, nf, upd_same, fun dx n1 n2 => ?_⟩⟩
  have nd : H dx = none := by
    rw [upd_ne n2] at n1
    exact n1
  refine ⟨rfl, dx, _, upd_same, by rw [upd_ne n2, upd_same], nd, ?_⟩
  have eh : upd (del (upd (upd (upd H a (exo a C none)) dx (exd dx (fs ws))) a (exo a C (some dx))) a) dx (.xd (fs ws)) = upd H dx (.xd (fs ws)) := by
    funext b
    by_cases h1 : b = dx
    · rw [h1, upd_same, upd_same]
    · rw [upd_ne h1, upd_ne h1]
      by_cases h2 : b = a
      · rw [h2, del_same, na]
      · rw [del_ne h2, upd_ne h2, upd_ne h1, upd_ne h2]
  rw [eh]
  exact q dx nd
/-- an error's fields, the latest first -/
def errF (x : Str) (ps : List Str) (ws : List V) : List (Str × V) := (ps.zip ws).reverse ++ [(("word" : Str), V.str x)]
theorem errF_mem {x : Str} {ps : List Str} {ws : List V} {q : Str × V} (h : q ∈ errF x ps ws) : q.1 ∈ (("word" : Str) :: ps) := by
  rcases List.mem_append.mp h with h | h
  · exact List.mem_cons_of_mem _ (List.of_mem_zip (List.mem_reverse.mp h)).1
  · cases List.mem_singleton.mp h
    exact List.mem_cons_self
/-- what is known of an error's class, its def and what it leaves -/
structure Er (P : Program) (w : World) (K : PySem.W.Frag) (mg : Str → Option Value) (base : Heap) (k : Nat) (nw : String) (tl : List Value) (x : Str) (ps : List Str) (C fI : Addr) (fd : FuncData) : Prop where
  T : Own K nw tl C
  g : mg x = some (.ref C)
  iC : PySem.W.findIn K (.ref C) "__init__" = some (some (.ref fI))
  tI : PySem.W.typeIn K (.ref fI) = some (.type "function")
  G : FnOk P w K mg base CX0 k fI fd (("self" : Str) :: ps) (spErr K nw tl ps.length (errF x ps))
  b : Binds K fd (("self" : Str) :: ps) []
  nf : ∀ f ∈ (("word" : Str) :: ps), PySem.W.findIn K (.ref C) f = some none
section
variable {X : Cx} {B nw ini : String} {tl : List Value} {x : Str} {ps : List Str} {C fI : Addr} {fd : FuncData} {k : Nat} {p pos : Pos} {e : Expr} {es : List Expr} {ta : TA}
theorem pmk_er (b : Bse B nw ini tl) (r : Er X.prog X.w X.K X.mg X.base k nw tl x ps C fI fd) (hr : Room (k + 1) X.A) (hg : Gl X x) (ha : PA X (e :: es) ta)
    (hd : (x == ("__debug__" : Str)) = false := by decide) (he : starEach (e :: es) X.env = (false, eval e X.env) :: starEach es X.env := by rfl) (hpl : (backTo pos (starEach es X.env)).any (·.1) = false := by rfl) :
    PMk X (.Call (.Name x p) (e :: es) [] pos) (tMkO C (spErr X.K nw tl ps.length (errF x ps)) [] ta) := pmk_err b r.T r.iC r.tI r.G hr r.b pass0 hg r.g ha hd he hpl
theorem pmk_er0 (b : Bse B nw ini tl) (r : Er X.prog X.w X.K X.mg X.base k nw tl x ps C fI fd) (hr : Room (k + 1) X.A) (hg : Gl X x) (hd : (x == ("__debug__" : Str)) = false := by decide) :
    PMk X (.Call (.Name x p) [] [] pos) (tMkO C (spErr X.K nw tl ps.length (errF x ps)) [] tNil) := pmk_err0 b r.T r.iC r.tI r.G hr r.b pass0 hg r.g hd
end
theorem Er.fin {P : Program} {w : World} {K : PySem.W.Frag} {mg : Str → Option Value} {base : Heap} {nw : String} {tl : List Value} {x : Str} {ps : List Str} {C fI : Addr} {fd : FuncData} {k : Nat} {ws : List V} {H : Hp} {Q : XK}
    (r : Er P w K mg base k nw tl x ps C fI fd) (hl : ws.length = ps.length) (few : ps.length ≤ 1000) (ar : ∀ v ∈ ws, ∃ y, ArgT v y) (q : ∀ d, H d = none → Q (.ref C) (some d) (upd H d (.xd (errF x ps ws)))) :
    ws.length ≤ 1000 ∧ ∀ a, H a = none → spErr K nw tl ps.length (errF x ps) (.ref a :: (ws ++ [])) (upd H a (exo a C none)) (fun v H2 => v = .non ∧ ∃ (d : Addr) (fs : List (Str × V)), H2 a = some (exo a C (some d)) ∧ H2 d = some (exd d fs) ∧ H d = none ∧ Q (.ref C) (some d) (upd (del H2 a) d (.xd fs))) (fun _ _ _ => False) :=
  err_end hl few ar r.T (fun q hq => r.nf _ (errF_mem hq)) q
end Hw

set_option Elab.async false
set_option linter.all false
set_option maxRecDepth 100000
set_option maxHeartbeats 4000000
namespace Hw
open PySem PySem.Spec PyProof.Rows L2 LamX
/-! a law whose def makes lambdas: its code object is known -/
theorem ok_at {P : Program} {w : World} {K : PySem.W.Frag} {mg : Str → Option Value} {base : Heap} {x qual : Str} {st : Stmt} {f c : Addr} {oc kV doc pm ct : Value} {od an : Option Addr} {osl : Array (Option Value)} {N ps : List Str} {k : Nat} {sp : Sp}
    (lk : K.lookup f = some ⟨oc, od, .func (PySem.W.fnOf x qual (defArgs st) (defBody st) (defScope st) .none kV doc pm an (.ref c) ct), osl⟩) (hcd : PySem.W.codeIn K (.ref c) qual = true) (S : FnScope N ps (defScope st)) (len : ∀ vs H Q E, sp vs H Q E → vs.length = ps.length)
    (body : ∀ (A : Around) (outer : List Env) (s : Shared) (H : Hp) (vs : List V) (Q : VK) (E : XK), Room k (A.deeper (envOfC qual (defScope st) s.heap.objs.size f (.ref c))) → sp vs H Q E →
      ∃ t, PSs (cxOf CX0 P w K mg base N qual (defScope st) f (.ref c) A outer s H E).nox (defBody st) t ∧ t { nx := fun _ H' => Q .non H', rt := Q } (start N vs) H) :
    FnOk P w K mg base CX0 (k + 1) f (PySem.W.fnOf x qual (defArgs st) (defBody st) (defScope st) .none kV doc pm an (.ref c) ct) ps sp :=
  fn_of lk hcd S len fun A outer s H vs Q E hr h => let ⟨t, p, q⟩ := body A outer s H vs Q E hr h; ⟨t, p.nox, q⟩
/-- the end of such a law: the tables of its code objects stand empty at the head -/
theorem walk_law {l : PySem.W.OpenLaw} {n k : Nat} {q : Program} {loose : List Str} {XP : (Str → Option Value) → Heap → Prop} {YP : World → Heap → Prop} {d : DefRec} {K : Params → PySem.W.Frag} {CX : World → CXT} {x : Str}
    (hn : l.most = some n) (hn2 : n ≤ sizeLine) (hdf : d.params.defaults = []) (hr : Room k callerA) (hY : ∀ (w : World) (h : Heap), YP w h → (K w.params).In h)
    (F : ∀ (w : World) (mg : Str → Option Value) (fa : Addr) (h : Heap), (K w.params).In h → h.Ns mainGlobals mg → mg d.name = some (.ref fa) →
      (∀ (y : Str) (e : DefRec) (c P : Addr), (recsOf q).find? (fun e => e.name == y) = some e → PySem.W.tabIn (K w.params) y = some (c, P) → PySem.W.CodeHd h c P ∧ h.get? P = some { cls := .none, data := .fields #[] }) → LawAtS l w (K w.params) (CX w) k n x mg fa h)
    (hCX : ∀ (w : World) (H : Hp) (s : Shared) (e : Value) (s' : Shared), CX w [] H s (fun _ _ _ => False) e s' → False) :
    PySem.W.WalkO q loose XP YP l.row.toRowW d [] (fun f vs => PySem.call f vs) := by
  refine Att.attach_callB hn hdf fun w s₀ s₁ mg mb fa o pm cd doc a vs ns G Y ho hd hcd hmg hobj hints hlen hbits hg => ?_
  have KX := hY w _ Y
  obtain ⟨fd, cs, sp, hT, nT, C, hb, hsp, hF⟩ := F w mg fa _ KX G.T.g hmg fun y e c P h1 h2 => PySem.W.tab_of G.T KX h1 h2
  exact law_callTs KX G.T.g G.T.b G.T.builtins G.T.nolimit hg hT nT C G.T.bmain hobj hints (Nat.le_trans hlen hn2) hr hF hb (fun H hH hS => hsp H a ns hlen hbits hH hS) fun H e s' => hCX w H s₁ e s'
/-! what a clause makes of an error -/
section
variable {K : PySem.W.Frag} {i : Nat} {W : WX} {D : Ends} {cls : Value} {d : Option Addr} {σ : L2.St} {H : Hp}
theorem why_at {cs : List Value} {ts : Suit} {l2 : List (List Value × Suit)} (h : PySem.W.exmAny K cls cs = some true) (q : ∀ a, H a = none → ts a cls d (outN i D) (σ.set i (some (.ref a))) H) : ∀ {l1 : List (List Value × Suit)}, (∀ p ∈ l1, PySem.W.exmAny K cls p.1 = some false) → wWhy K i W D (l1 ++ (cs, ts) :: l2) cls d σ H
  | [], _ => ⟨true, h, fun _ => q, fun z => nomatch z⟩
  | (c1, t1) :: l1, no => ⟨false, no _ List.mem_cons_self, fun z => (nomatch z), fun _ => why_at h q fun p hp => no p (List.mem_cons_of_mem _ hp)⟩
end
/-- the fields of a caught error, in a tuple -/
def tFs (K : PySem.W.Frag) (fs : List Str) : Suit := fun a cls d => tRet (tTup (fs.foldr (fun f t => tCons (tXa K a cls d f 1) t) tNil))
section
variable {K : PySem.W.Frag} {C dd a : Addr} {xs : List (Str × V)} {H : Hp} {σ : L2.St}
theorem fs_run (xf : XfC K C) (hd : H dd = some (.xd xs)) (hs : σ[1]? = some (some (.ref a))) : ∀ {fs : List Str} {vs : List V} {Q : List V → Hp → Prop}, Paired (fun f v => PySem.W.findIn K (.ref C) f = some none ∧ xs.lookup f = some v) fs vs → Q vs H → (fs.foldr (fun f t => tCons (tXa K a (.ref C) (some dd) f 1) t) tNil) σ H Q
  | _, _, _, .nil, q => q
  | _, _, _, .cons h r, q => ⟨hs, C, rfl, xf, h.1, dd, xs, _, rfl, hd, h.2, fs_run xf hd hs r q⟩
theorem fs_fin {fs : List Str} {vs : List V} {D : Ends} (xf : XfC K C) (hd : H dd = some (.xd xs)) (hs : σ[1]? = some (some (.ref a))) (p : Paired (fun f v => PySem.W.findIn K (.ref C) f = some none ∧ xs.lookup f = some v) fs vs) (small : vs.length ≤ 1000) (q : ∀ p, H p = none → D.rt (.ref p) (upd H p (.tup vs))) :
    tFs K fs a (.ref C) (some dd) D σ H := fs_run (Q := fun ys H1 => ys.length ≤ sizeLine ∧ ∀ p, H1 p = none → D.rt (.ref p) (upd H1 p (.tup ys))) xf hd hs p ⟨Nat.le_of_lt (small1000 small), q⟩
end
/-- heaps that differ in tables alone -/
theorem ext_same {H H' : Hp} (s : Same H H') : ExtN H H' := fun b o e _ => s b o e
end Hw

set_option Elab.async false
set_option linter.all false
set_option maxRecDepth 100000
set_option maxHeartbeats 4000000
namespace Hw
open PySem PySem.Spec PyProof.Rows L2 LamX He
/-! facts of a head, read by one look -/
theorem fun_of {K : PySem.W.Frag} {x q : Str} {st : Stmt} {f : Addr} {fd : FuncData} (F : FunD K x q (defArgs st) (defBody st) (defScope st) [] [] f fd) : Fun K x q st f fd := by
  obtain ⟨oc, od, dV, kV, doc, pm, an, cdv, ct, osl, e, lk, hc, dd, _⟩ := F.ex
  rcases dd with ⟨_, rfl⟩ | ⟨no, _⟩
  · exact ⟨⟨oc, od, kV, doc, pm, an, cdv, ct, osl, e, lk, hc⟩, F.kp⟩
  · exact absurd rfl no
/-- an own class of errors straight below U -/
def ownB (K : PySem.W.Frag) (C U : Addr) (tl : List Value) (nw : String) : Bool := match K.lookup C with
  | some ⟨.type t, _, .cls cd, sl⟩ => decide (t = "type") && (match cd.mro, sl.toList with
    | .ref c1 :: bm, [_, _, _, _, some (.builtin n), _] => decide (c1 = C) && (decide (n = nw) && (!cd.hasDel && (cd.hasDict && decide (bm = .ref U :: tl))))
    | _, _ => false)
  | _ => false
theorem ownB_ok {K : PySem.W.Frag} {C U : Addr} {tl : List Value} {nw : String} (h : ownB K C U tl nw = true) :
    ∃ nm q N bs cs sn sub ab col dd k0 k1 k2 k3 k5, K.lookup C = some (excClassObj nm q C N bs (mroT cs tl) true sn sub ab col dd k0 k1 k2 k3 k5 nw) := by
  unfold ownB at h
  split at h
  · rename_i t dd cd sl ho
    obtain ⟨h1, h2⟩ := ba h
    have e1 := of_decide_eq_true h1
    subst e1
    split at h2
    · rename_i c1 bm k0 k1 k2 k3 n k5 hm hs
      obtain ⟨z1, z⟩ := ba h2
      obtain ⟨z2, z⟩ := ba z
      obtain ⟨z3, z⟩ := ba z
      obtain ⟨z4, z5⟩ := ba z
      have e1 := of_decide_eq_true z1
      have e2 := of_decide_eq_true z2
      have e5 := of_decide_eq_true z5
      subst e1 e2 e5
      obtain ⟨nm, bs, mro, ns, qn, hd, sn, sub, ab, col, del⟩ := cd
      have z3' : del = false := by simpa using z3
      have z4' : hd = true := z4
      have hm' : mro = .ref c1 :: .ref U :: tl := hm
      subst z3' z4' hm'
      have e : sl = #[k0, k1, k2, k3, some (.builtin n), k5] := by
        obtain ⟨l⟩ := sl
        have hs' : l = [k0, k1, k2, k3, some (.builtin n), k5] := hs
        rw [hs']
      subst e
      exact ⟨nm, qn, ns, bs, [U], sn, sub, ab, col, dd, k0, k1, k2, k3, k5, ho⟩
    · cases h2
  · cases h
/-- all that is asked of a class of errors -/
def oneB (K : PySem.W.Frag) (e u : Str) (tl : List Value) (nw : String) (fs : List Str) : Bool :=
  ownB K (ga K e) (ga K u) tl nw && (eqO (PySem.W.findIn K (.ref (ga K e)) "__setattr__") (some (some (.builtin "object.__setattr__"))) && (decide (PySem.W.subIn K (.ref (ga K e)) (.type "BaseException") = some true) && (decide (PySem.W.typeIn K (.ref (ga K e)) = some (.type "type")) &&
    (PySem.W.keepIn K (.ref (ga K e)) && (eqO (PySem.W.findIn K (.ref (ga K e)) "__init__") (some (some (.ref (ma K (ga K e) "__init__")))) && (decide (PySem.W.typeIn K (.ref (ma K (ga K e) "__init__")) = some (.type "function")) &&
      (eqO (PySem.W.findIn K (.ref (ga K e)) "__getattribute__") (some (some (.builtin "BaseException.__getattribute__"))) && (eqO (PySem.W.findIn K (.ref (ga K e)) "__getattr__") (some none) && (PySem.W.hasDictIn K (ga K e) && fs.all fun f => eqO (PySem.W.findIn K (.ref (ga K e)) f) (some none))))))))))
structure OneE (K : PySem.W.Frag) (e : Str) (tl : List Value) (nw : String) (fs : List Str) : Prop where
  own : Own K nw tl (ga K e)
  iC : PySem.W.findIn K (.ref (ga K e)) "__init__" = some (some (.ref (ma K (ga K e) "__init__")))
  tI : PySem.W.typeIn K (.ref (ma K (ga K e) "__init__")) = some (.type "function")
  xf : XfC K (ga K e)
  nf : ∀ f ∈ fs, PySem.W.findIn K (.ref (ga K e)) f = some none
theorem oneB_ok {K : PySem.W.Frag} {e u : Str} {tl : List Value} {nw : String} {fs : List Str} (h : oneB K e u tl nw fs = true) : OneE K e tl nw fs := by
  obtain ⟨h1, h⟩ := ba h
  obtain ⟨h2, h⟩ := ba h
  obtain ⟨h3, h⟩ := ba h
  obtain ⟨h4, h⟩ := ba h
  obtain ⟨h5, h⟩ := ba h
  obtain ⟨h6, h⟩ := ba h
  obtain ⟨h7, h⟩ := ba h
  obtain ⟨h8, h⟩ := ba h
  obtain ⟨h9, h⟩ := ba h
  obtain ⟨h10, h11⟩ := ba h
  exact ⟨⟨ownB_ok h1, eqO_ok h2, of_decide_eq_true h3, of_decide_eq_true h4, h5⟩, eqO_ok h6, of_decide_eq_true h7, ⟨eqO_ok h8, eqO_ok h9, of_decide_eq_true h3, h10⟩, fun f hf => eqO_ok (List.all_eq_true.mp h11 f hf)⟩
/-- an upper class, its __init__ read off it; the built-in class above -/
def upB (K : PySem.W.Frag) (u : Str) (py ini : String) : Bool :=
  PySem.W.readsIn K (ga K u) (.type "type") && (eqO (PySem.W.specialIn K (.ref (ga K u)) "__getattribute__") (some (some (.builtin "type.__getattribute__"))) && ((match PySem.W.findCls K (.ref (ga K u)) (.type "type") "__init__" with
    | some (.val (.ref a)) => decide (a = ma K (ga K u) "__init__")
    | _ => false) && (match PySem.W.findCls K (.type py) (.type "type") "__init__" with
    | some (.val (.builtin i)) => decide (i = ini)
    | _ => false)))
structure UpE (K : PySem.W.Frag) (u : Str) (py ini : String) : Prop where
  r : ClX.CRead K (ga K u) (.type "type")
  c : ClX.CVal K (ga K u) (.type "type") "__init__" (.ref (ma K (ga K u) "__init__")) (.ref (ma K (ga K u) "__init__"))
  b : PySem.W.findCls K (.type py) (.type "type") "__init__" = some (.val (.builtin ini))
theorem upB_ok {K : PySem.W.Frag} {u : Str} {py ini : String} (h : upB K u py ini = true) : UpE K u py ini := by
  obtain ⟨h1, h⟩ := ba h
  obtain ⟨h2, h⟩ := ba h
  obtain ⟨h3, h4⟩ := ba h
  refine ⟨⟨h1, eqO_ok h2⟩, ⟨?_, rfl⟩, ?_⟩
  · split at h3
    · rename_i a e
      rw [e, of_decide_eq_true h3]
    · cases h3
  · split at h4
    · rename_i a e
      rw [e, of_decide_eq_true h4]
    · cases h4
def exmB (K : PySem.W.Frag) (e : Str) (l : List Str) (b : Bool) : Bool := decide (PySem.W.exmAny K (.ref (ga K e)) ((l.map (ga K)).map Value.ref) = some b)
theorem exmB_ok {K : PySem.W.Frag} {e : Str} {l : List Str} {b : Bool} (h : exmB K e l b = true) : PySem.W.exmAny K (.ref (ga K e)) ((l.map (ga K)).map Value.ref) = some b := of_decide_eq_true h
/-- the law's own def and its table -/
theorem law_tab {fa : List Fa} {fn : List DefD} {ts : List He.Tab} {tf : List Defn} {ex : PySem.W.Frag → Bool} {w : World} {h : Heap} {K : PySem.W.Frag} (X : K.In h) (c : SaysX fa fn ts tf ex w h K) {x : Str} {st : Stmt} {fd : FuncData} (F : Fun K x x st (ga K x) fd) (m : ((x, none) : Defn) ∈ tf) :
    ∃ (cL PL : Addr) (oc : Value) (od : Option Addr) (kV doc pm : Value) (an : Option Addr) (ct : Value) (osl : Array (Option Value)), K.lookup (ga K x) = some ⟨oc, od, .func (PySem.W.fnOf x x (defArgs st) (defBody st) (defScope st) .none kV doc pm an (.ref cL) ct), osl⟩ ∧ PySem.W.codeIn K (.ref cL) x = true ∧
      PySem.W.CodeHd h cL PL ∧ h.get? PL = some { cls := .none, data := .fields #[] } ∧ K.lookup PL = none := by
  obtain ⟨oc, od, kV, doc, pm, an, cdv, ct, osl, e, lk, hc⟩ := F.ex
  obtain ⟨cL, rfl⟩ := codeIn_ref hc
  subst e
  have ec : codeOf K (x, none) = cL := codeOf_eq (p := (x, none)) (c := cL) lk rfl
  have h1 := c.hd _ m
  have h2 := c.out _ m
  have h3 := c.empty _ m
  have e1 : cT K (x, none) = (cL, tabOf K cL) := by
    unfold cT
    rw [ec]
  rw [e1] at h1 h2 h3
  exact ⟨cL, tabOf K cL, oc, od, kV, doc, pm, an, ct, osl, lk, hc, PySem.W.codeHd_of_K X h1, h3, h2⟩
/-! the look: what the module's names reach, and the statics -/
def seen (n : Nat) (g : Addr → Option Obj) : PySem.W.Frag := frT g (cStatics :: asD g n)
def look (n : Nat) (fa : List Fa) (fn : List DefD) (tf : List Defn) (ex : PySem.W.Frag → Bool) (g : Addr → Option Obj) : AlX :=
  let K := seen n g
  (obsT fa fn [] K, ex K && tabsB g tf K)
theorem look_says {n : Nat} {fa : List Fa} {fn : List DefD} {tf : List Defn} {ex : PySem.W.Frag → Bool} {w : World} {h : Heap} (e : look n fa fn tf ex h.get? = valX fn [] w) : SaysX fa fn [] tf ex w h (seen n h.get?) := by
  have a : obsT fa fn [] (seen n h.get?) = valT fn [] w := congrArg Prod.fst e
  obtain ⟨b, t⟩ := ba (show (ex (seen n h.get?) && tabsB h.get? tf (seen n h.get?)) = true from congrArg Prod.snd e)
  have each : ∀ p ∈ tf, PySem.W.codeHdIn (seen n h.get?) (cT (seen n h.get?) p).1 (cT (seen n h.get?) p).2 = true ∧ h.get? (cT (seen n h.get?) p).2 = some { cls := .none, data := .fields #[] } := fun p hp => by
    obtain ⟨t1, t2⟩ := ba (List.all_eq_true.mp t p hp)
    refine ⟨t1, ?_⟩
    split at t2
    · rename_i o q
      rw [q, emptyTab_eq t2]
    · cases t2
  exact { t := a, more := b, hd := fun p hp => (each p hp).1, out := fun p hp => frT_none (each p hp).2 rfl, empty := fun p hp => (each p hp).2 }
def lookH (n : Nat) (fa : List Fa) (fn : List DefD) (tf : List Defn) (ex : PySem.W.Frag → Bool) : PySem.W.Hook where
  α := AlX
  obs := fun s => look n fa fn tf ex s.heap.get?
  val := fun w => valX fn [] w
  says := fun w h => ∃ K : PySem.W.Frag, K.In h ∧ SaysX fa fn [] tf ex w h K
  of := fun _ _ e => ⟨_, frT_in, look_says e⟩
  keeps := fun _ _ _ ⟨K, kin, c⟩ k => ⟨K, kin.keeps k, { t := c.t, more := c.more, hd := c.hd, out := c.out, empty := fun p hp => k _ _ (c.empty p hp) }⟩
theorem look_eq {n : Nat} {fa : List Fa} {fn : List DefD} {tf : List Defn} {ex : PySem.W.Frag → Bool} {g : Addr → Option Obj} {s : Shared} (h : ∀ a, g a = s.heap.get? a) : look n fa fn tf ex g = (lookH n fa fn tf ex).obs s := by
  have e : g = s.heap.get? := funext h
  subst e
  rfl
end Hw

set_option Elab.async false
set_option linter.all false
set_option maxRecDepth 100000
set_option maxHeartbeats 0
namespace Hl
open PySem PySem.Spec PyProof.Rows L2
def topS (i : Nat) : Stmt := PySem.Challenge.pw_heedless_k12_whole_purses_judged.main.body.getD i (.Pass ⟨0, 0, 0, 0⟩)
open PySem PySem.Spec PyProof.Rows L2 LamX He
def hd0 : He.DefD := ⟨("letter_pairs", none), "letter_pairs", "letter_pairs", defArgs (topS 4), defBody (topS 4), defScope (topS 4), [], []⟩
def hd1 : He.DefD := ⟨("_law_deal", none), "_law_deal", "_law_deal", defArgs (topS 16), defBody (topS 16), defScope (topS 16), [], []⟩
def hd2 : He.DefD := ⟨("_law_pick", none), "_law_pick", "_law_pick", defArgs (topS 17), defBody (topS 17), defScope (topS 17), [], []⟩
def hd3 : He.DefD := ⟨("_law_of", none), "_law_of", "_law_of", defArgs (topS 18), defBody (topS 18), defScope (topS 18), [], []⟩
def hd4 : He.DefD := ⟨("_law_like", none), "_law_like", "_law_like", defArgs (topS 19), defBody (topS 19), defScope (topS 19), [], []⟩
def hd5 : He.DefD := ⟨("_law_names", none), "_law_names", "_law_names", defArgs (topS 22), defBody (topS 22), defScope (topS 22), [], []⟩
def hd6 : He.DefD := ⟨("_law_shuffled", none), "_law_shuffled", "_law_shuffled", defArgs (topS 23), defBody (topS 23), defScope (topS 23), [], []⟩
def hd7 : He.DefD := ⟨("_law_rule", none), "_law_rule", "_law_rule", defArgs (topS 24), defBody (topS 24), defScope (topS 24), [], []⟩
def hd8 : He.DefD := ⟨("_law_down", none), "_law_down", "_law_down", defArgs (topS 25), defBody (topS 25), defScope (topS 25), [], []⟩
def hd9 : He.DefD := ⟨("_law_times_of", none), "_law_times_of", "_law_times_of", defArgs (topS 26), defBody (topS 26), defScope (topS 26), [], []⟩
def hd10 : He.DefD := ⟨("_law_weight", none), "_law_weight", "_law_weight", defArgs (topS 27), defBody (topS 27), defScope (topS 27), [], []⟩
def hd11 : He.DefD := ⟨("_law_gain", none), "_law_gain", "_law_gain", defArgs (topS 28), defBody (topS 28), defScope (topS 28), [], []⟩
def hd12 : He.DefD := ⟨("_law_raw", none), "_law_raw", "_law_raw", defArgs (topS 29), defBody (topS 29), defScope (topS 29), [], []⟩
def hd13 : He.DefD := ⟨("_law_renumbered", none), "_law_renumbered", "_law_renumbered", defArgs (topS 30), defBody (topS 30), defScope (topS 30), [], []⟩
def hd14 : He.DefD := ⟨("_law_device", none), "_law_device", "_law_device", defArgs (topS 31), defBody (topS 31), defScope (topS 31), [], []⟩
def hd15 : He.DefD := ⟨("_law_any_device", none), "_law_any_device", "_law_any_device", defArgs (topS 32), defBody (topS 32), defScope (topS 32), [], []⟩
def hd16 : He.DefD := ⟨("_law_reached", none), "_law_reached", "_law_reached", defArgs (topS 34), defBody (topS 34), defScope (topS 34), [], []⟩
def hd17 : He.DefD := ⟨("greatest_common", none), "greatest_common", "greatest_common", defArgs (topS 6), defBody (topS 6), defScope (topS 6), [], []⟩
def hd18 : He.DefD := ⟨("less", none), "less", "less", defArgs (topS 8), defBody (topS 8), defScope (topS 8), [], []⟩
def hd19 : He.DefD := ⟨("stands_hold", none), "stands_hold", "stands_hold", defArgs (topS 10), defBody (topS 10), defScope (topS 10), [], []⟩
def hd20 : He.DefD := ⟨("as_many", none), "as_many", "as_many", defArgs (topS 11), defBody (topS 11), defScope (topS 11), [], []⟩
def hd21 : He.DefD := ⟨("unders_hold", none), "unders_hold", "unders_hold", defArgs (topS 12), defBody (topS 12), defScope (topS 12), [], []⟩
def hd22 : He.DefD := ⟨("sends_hold", none), "sends_hold", "sends_hold", defArgs (topS 13), defBody (topS 13), defScope (topS 13), [], []⟩
def hd23 : He.DefD := ⟨("order_holds", none), "order_holds", "order_holds", defArgs (topS 14), defBody (topS 14), defScope (topS 14), [], []⟩
def hd24 : He.DefD := ⟨("_law_low", none), "_law_low", "_law_low", defArgs (topS 20), defBody (topS 20), defScope (topS 20), [], []⟩
def hd25 : He.DefD := ⟨("_law_sum", none), "_law_sum", "_law_sum", defArgs (topS 21), defBody (topS 21), defScope (topS 21), [], []⟩
def hd26 : He.DefD := ⟨("_law_walked", none), "_law_walked", "_law_walked", defArgs (topS 33), defBody (topS 33), defScope (topS 33), [], []⟩
def hd27 : He.DefD := ⟨("_law_heeding", none), "_law_heeding", "_law_heeding", defArgs (topS 35), defBody (topS 35), defScope (topS 35), [], []⟩
def hd28 : He.DefD := ⟨("_law_again_from", none), "_law_again_from", "_law_again_from", defArgs (topS 36), defBody (topS 36), defScope (topS 36), [], []⟩
def hd29 : He.DefD := ⟨("_law_round", none), "_law_round", "_law_round", defArgs (topS 37), defBody (topS 37), defScope (topS 37), [], []⟩
def hd30 : He.DefD := ⟨("_law_rates", none), "_law_rates", "_law_rates", defArgs (topS 38), defBody (topS 38), defScope (topS 38), [], []⟩
def hd31 : He.DefD := ⟨("_law_own_purses", none), "_law_own_purses", "_law_own_purses", defArgs (topS 39), defBody (topS 39), defScope (topS 39), [], []⟩
def hd32 : He.DefD := ⟨("_law_bent_lists", none), "_law_bent_lists", "_law_bent_lists", defArgs (topS 40), defBody (topS 40), defScope (topS 40), [], []⟩
def hd33 : He.DefD := ⟨("_law_holds", none), "_law_holds", "_law_holds", defArgs (topS 41), defBody (topS 41), defScope (topS 41), [], []⟩
def hd34 : He.DefD := ⟨("law", none), "law", "law", defArgs (topS 42), defBody (topS 42), defScope (topS 42), [], []⟩
def hd35 : He.DefD := ⟨("part", none), "part", "part", defArgs (topS 7), defBody (topS 7), defScope (topS 7), [.int 1], []⟩
def hfn : List He.DefD := [hd0, hd1, hd2, hd3, hd4, hd5, hd6, hd7, hd8, hd9, hd10, hd11, hd12, hd13, hd14, hd15, hd16, hd17, hd18, hd19, hd20, hd21, hd22, hd23, hd24, hd25, hd26, hd27, hd28, hd29, hd30, hd31, hd32, hd33, hd34, hd35]
def hfa : List He.Fa := [.glo "letter_pairs", .glo "_law_deal", .glo "_law_pick", .glo "_law_of", .glo "_law_like", .glo "_law_names", .glo "_law_shuffled", .glo "_law_rule", .glo "_law_down", .glo "_law_times_of", .glo "_law_weight", .glo "_law_gain", .glo "_law_raw", .glo "_law_renumbered", .glo "_law_device", .glo "_law_any_device", .glo "_law_reached", .glo "greatest_common", .glo "less", .glo "stands_hold", .glo "as_many", .glo "unders_hold", .glo "sends_hold", .glo "order_holds", .glo "_law_low", .glo "_law_sum", .glo "_law_walked", .glo "_law_heeding", .glo "_law_again_from", .glo "_law_round", .glo "_law_rates", .glo "_law_own_purses", .glo "_law_bent_lists", .glo "_law_holds", .glo "law", .free "isinstance", .free "list", .free "tuple", .free "len", .free "all", .free "range", .free "bool", .free "int", .free "str", .free "abs", .free "min", .free "max", .free "sum", .free "zip", .free "sorted", .free "enumerate", .free "any", .free "repr", .glo "part"]
def hex (K : PySem.W.Frag) : Bool := true
abbrev hR : PySem.W.OpenRow := PySem.W.OpenLaw.row PySem.Challenge.rw_heedless_k12_whole_purses_judged
abbrev hk : PySem.W.Hook := Hw.lookH 5 hfa hfn [] hex
def hob (s : PySem.W.SharedT) : He.AlX := Hw.look 5 hfa hfn [] hex (HandSHeadRun.getT s)
theorem hob_eq (s : PySem.W.SharedT) : hob s = hk.obs s.abs := Hw.look_eq (HandSHeadRun.getT_eq s)
def hloose : List Str := (["HeedError", "BadPart", "letter_pairs", "greatest_common", "part", "less", "stands_hold", "as_many", "unders_hold", "sends_hold", "order_holds", "_law_deal", "_law_pick", "_law_of", "_law_like", "_law_low", "_law_sum", "_law_names", "_law_shuffled", "_law_rule"] : List Str) ++ (["_law_down", "_law_times_of", "_law_weight", "_law_gain", "_law_raw", "_law_renumbered", "_law_device", "_law_any_device", "_law_walked", "_law_reached", "_law_heeding", "_law_again_from", "_law_round", "_law_rates", "_law_own_purses", "_law_bent_lists", "_law_holds"] : List Str)
theorem hrun (w : World) : HandSHeadRun.RunEq hR (PySem.W.view hR.prog [42]) hk hob 20000 hloose w := by
  intro os
  kernel_rfl
end Hl

set_option Elab.async false
set_option linter.all false
set_option maxRecDepth 100000
set_option maxHeartbeats 4000000
namespace Zn
open PySem PySem.Spec PyProof.Rows L2
/-- what a zip draws from: the cell of its iterator, the list or the tuple (tu), its items -/
structure Sr where
  it : Addr
  a : Addr
  tu : Bool
  us : List Value
/-- i items are drawn -/
def Sr.pos (r : Sr) (i : Nat) (h : Heap) : Prop := (r.tu = true → h.IsTupleIter r.it r.a i ∧ h.IsTuple r.a r.us.toArray) ∧ (r.tu = false → h.IsListIter r.it r.a i ∧ h.IsList r.a r.us.toArray)
theorem Sr.pos_tup {it a : Addr} {us : List Value} {i : Nat} {h : Heap} : (Sr.mk it a true us).pos i h ↔ h.IsTupleIter it a i ∧ h.IsTuple a us.toArray := ⟨fun x => x.1 rfl, fun x => ⟨fun _ => x, fun e => nomatch e⟩⟩
theorem Sr.pos_lst {it a : Addr} {us : List Value} {i : Nat} {h : Heap} : (Sr.mk it a false us).pos i h ↔ h.IsListIter it a i ∧ h.IsList a us.toArray := ⟨fun x => x.2 rfl, fun x => ⟨(fun e => nomatch e), fun _ => x⟩⟩
theorem Sr.keep {r : Sr} {i : Nat} {h h' : Heap} (p : r.pos i h) (k : ∀ (b : Addr) (o : Obj), b = r.it ∨ b = r.a → h.get? b = some o → h'.get? b = some o) : r.pos i h' :=
  ⟨fun e => ⟨(p.1 e).1.at fun o q => k _ o (.inl rfl) q, (p.1 e).2.at fun o q => k _ o (.inr rfl) q⟩, fun e => ⟨(p.2 e).1.at fun o q => k _ o (.inl rfl) q, (p.2 e).2.at fun o q => k _ o (.inr rfl) q⟩⟩
theorem Sr.draws {prog : Program} {w : World} {A : Around} (hh : A.handled = none) (r : Sr) (ne : r.a ≠ r.it) : Draws prog w A r.it [r.it, r.a] r.us.length (fun i v => r.us[i]? = some v) (fun i h => r.pos i h) := by
  obtain ⟨it, a, tu, us⟩ := r
  cases tu with
  | true =>
    have D := Draws.tuple (prog := prog) (w := w) hh it a ne us.toArray
    exact ⟨fun i h x => D.live i h (Sr.pos_tup.mp x), fun i h h' x k => Sr.pos_tup.mpr (D.frame i h h' (Sr.pos_tup.mp x) k),
      fun i s Q E hi x q => D.item i s Q E (by simpa using hi) (Sr.pos_tup.mp x) fun v h' tk hv st sb => q v h' tk (by simpa using hv) (Sr.pos_tup.mpr st) sb,
      fun s Q E x q => D.done s Q E (by simpa using Sr.pos_tup.mp x) q⟩
  | false =>
    have D := Draws.list (prog := prog) (w := w) hh it a ne us.toArray
    exact ⟨fun i h x => D.live i h (Sr.pos_lst.mp x), fun i h h' x k => Sr.pos_lst.mpr (D.frame i h h' (Sr.pos_lst.mp x) k),
      fun i s Q E hi x q => D.item i s Q E (by simpa using hi) (Sr.pos_lst.mp x) fun v h' tk hv st sb => q v h' tk (by simpa using hv) (Sr.pos_lst.mpr st) sb,
      fun s Q E x q => D.done s Q E (by simpa using Sr.pos_lst.mp x) q⟩
abbrev TupC (h : Heap) (T : Addr) (arr : Array Value) : Prop := h.get? T = some { cls := .type "tuple", data := .seq arr }
/-- the cells stand in a row from lo on: the iterators, their tuple, the tuple that is filled, the zip -/
def Rowed (lo : Addr) (rs : List Sr) : Prop := ∀ (j : Nat) (r : Sr), rs[j]? = some r → r.it = lo + j ∧ r.a < lo
/-- amid a turn: k items are drawn -/
structure Mid (lo : Addr) (rs : List Sr) (i k : Nat) (arr : Array Value) (own : Value) (h : Heap) : Prop where
  z : IsZip h (lo + rs.length + 2) (lo + rs.length) (lo + rs.length + 1) own
  ti : TupC h (lo + rs.length) (rs.map fun r => Value.ref r.it).toArray
  to : TupC h (lo + rs.length + 1) arr
  sz : arr.size = rs.length
  ps : ∀ (j : Nat) (r : Sr), rs[j]? = some r → r.pos (if j < k then i + 1 else i) h
  ar : ∀ (j : Nat) (r : Sr), rs[j]? = some r → j < k → arr[j]? = r.us[i]?
/-- all else stays -/
def Fr (lo n : Nat) (h h' : Heap) : Prop := ∀ (c : Nat) (o : Obj), (c < lo ∨ lo + n + 2 < c) → h.get? c = some o → h'.get? c = some o
theorem Fr.trans {lo n : Nat} {h h1 h2 : Heap} (a : Fr lo n h h1) (b : Fr lo n h1 h2) : Fr lo n h h2 := fun c o hc e => b c o hc (a c o hc e)
theorem draw_loop {β : Type} {M : Model} {A : Around} {E : Value → Shared → Prop} {f : Value × Nat → β → Sem (ForInStep β)} {r0 : β} {lo i : Nat} {rs : List Sr}
    (hf : ∀ (k : Nat) (r : Sr) (arr : Array Value) (s : Shared) (R : ForInStep β → Shared → Prop), rs[k]? = some r → Mid lo rs i k arr .ellipsis s.heap →
      (∀ (h' : Heap) (tk : Nat) (arr' : Array Value), Mid lo rs i (k + 1) arr' .ellipsis h' → h'.objs.size = s.heap.objs.size → Fr lo rs.length s.heap h' → R (.yield r0) { s with heap := h', toks := tk }) → wpAny M A (f (.ref r.it, k) r0) R E s) :
    ∀ (qs pre : List Sr), rs = pre ++ qs → ∀ (s : Shared) (arr : Array Value) (Q : β → Shared → Prop), Mid lo rs i pre.length arr .ellipsis s.heap →
      (∀ (h' : Heap) (tk : Nat) (arr' : Array Value), Mid lo rs i rs.length arr' .ellipsis h' → h'.objs.size = s.heap.objs.size → Fr lo rs.length s.heap h' → Q r0 { s with heap := h', toks := tk }) →
      wpAny M A (forIn ((qs.map fun r => Value.ref r.it).zipIdx pre.length) r0 f) Q E s
  | [], pre, e, s, arr, Q, m, q => by
    have ep : pre = rs := by rw [e, List.append_nil]
    rw [List.map_nil, List.zipIdx_nil, List.forIn_nil]
    exact wpAny_pure (q s.heap s.toks arr (by rw [← ep]; rw [← ep] at m; exact m) rfl fun _ _ _ h => h)
  | r :: qs, pre, e, s, arr, Q, m, q => by
    rw [List.map_cons, List.zipIdx_cons, List.forIn_cons]
    refine wpAny_bind (hf pre.length r arr s _ (by rw [e]; simp) m fun h' tk arr' m' sz fr => ?_)
    have ih := draw_loop hf qs (pre ++ [r]) (by rw [e]; simp) { s with heap := h', toks := tk } arr' Q (by simpa using m') fun h2 tk2 arr2 m2 sz2 fr2 => q h2 tk2 arr2 m2 (sz2.trans sz) (fr.trans fr2)
    simpa using ih
section
variable {prog : Program} {w : World} {A : Around} {E : Value → Shared → Prop} {s : Shared} {lo i : Nat} {rs : List Sr}
/-- one is drawn, the cell in the tuple that is filled -/
theorem Mid.step {k : Nat} {r : Sr} {arr : Array Value} {h h1 h2 : Heap} {x : Value} (rw_ : Rowed lo rs) (hk : rs[k]? = some r) (m : Mid lo rs i k arr .ellipsis h) (hx : r.us[i]? = some x) (p : r.pos (i + 1) h1) (s1 : Heap.SameBut r.it h h1)
    (t2 : TupC h2 (lo + rs.length + 1) (arr.setIfInBounds k x)) (s2 : Heap.SameBut (lo + rs.length + 1) h1 h2) : Mid lo rs i (k + 1) (arr.setIfInBounds k x) .ellipsis h2 ∧ h2.objs.size = h.objs.size ∧ Fr lo rs.length h h2 := by
  obtain ⟨ei, ea⟩ := rw_ k r hk
  have kl := (List.getElem?_eq_some_iff.mp hk).1
  have go : ∀ (c : Nat) (o : Obj), c ≠ lo + k → c ≠ lo + rs.length + 1 → h.get? c = some o → h2.get? c = some o := fun c o c1 c2 e => s2.extBut _ _ c2 (s1.extBut _ _ (by rw [ei]; exact c1) e)
  refine ⟨⟨go _ _ (by omega) (by omega) m.z, go _ _ (by omega) (by omega) m.ti, t2, by rw [Array.size_setIfInBounds]; exact m.sz, fun j r' hj => ?_, fun j r' hj hlt => ?_⟩, by rw [s2.1, s1.1], fun c o hc e => go c o (by omega) (by omega) e⟩
  · obtain ⟨ej, aj⟩ := rw_ j r' hj
    have low : ∀ (r : Sr), r.it = lo + j → r.a < lo → ∀ b : Nat, b = r.it ∨ b = r.a → b = lo + j ∨ b < lo := fun r h1 h2 b hb => hb.elim (fun e => .inl (e.trans h1)) fun e => .inr (e ▸ h2)
    have jl := (List.getElem?_eq_some_iff.mp hj).1
    by_cases e : j = k
    · subst e
      rw [hk] at hj
      cases Option.some.inj hj
      rw [if_pos (by omega)]
      exact Sr.keep p fun b o hb q => s2.extBut _ _ (show @Ne Nat b (lo + rs.length + 1) by have := low r ej aj b hb; omega) q
    · have st := m.ps j r' hj
      have e2 : (if j < k + 1 then i + 1 else i) = if j < k then i + 1 else i := by
        by_cases l : j < k
        · rw [if_pos l, if_pos (by omega)]
        · rw [if_neg l, if_neg (by omega)]
      rw [e2]
      exact Sr.keep st fun b o hb q => go _ _ (by have := low r' ej aj b hb; omega) (by have := low r' ej aj b hb; omega) q
  · rw [Array.getElem?_setIfInBounds]
    by_cases e : k = j
    · subst e
      rw [hk] at hj
      cases Option.some.inj hj
      rw [if_pos rfl, if_pos (by rw [m.sz]; exact kl), hx]
    · rw [if_neg e]
      exact m.ar j r' hj (by omega)
end
end Zn

set_option Elab.async false
set_option linter.all false
set_option maxRecDepth 100000
set_option maxHeartbeats 4000000
namespace Zn
open PySem PySem.Spec PyProof.Rows L2
section
variable {prog : Program} {w : World} {A : Around} {E : Value → Shared → Prop} {s : Shared} {lo i : Nat} {rs : List Sr}
/-- the items of this turn -/
def its (rs : List Sr) (i : Nat) : List Value := rs.map fun r => (r.us[i]?).getD .none
theorem Mid.all {arr : Array Value} {own : Value} {h : Heap} (m : Mid lo rs i rs.length arr own h) (hi : ∀ r ∈ rs, i < r.us.length) : arr = (its rs i).toArray := by
  refine Array.ext (by rw [m.sz]; simp [its]) fun j h1 h2 => ?_
  have jl : j < rs.length := by rw [← m.sz]; exact h1
  have hr : rs[j]? = some rs[j] := List.getElem?_eq_getElem jl
  have e := m.ar j _ hr jl
  rw [Array.getElem?_eq_getElem h1] at e
  have il := hi _ (List.getElem_mem jl)
  rw [List.getElem?_eq_getElem il] at e
  rw [Option.some.inj e]
  simp [its, List.getElem?_eq_getElem il]
theorem upd_cell {T : Addr} {arr : Array Value} {k : Nat} {x : Value} {Q : Unit → Shared → Prop} (hT : TupC s.heap T arr) (hl : arr.size ≤ sizeLine)
    (h : ∀ h', TupC h' T (arr.setIfInBounds k x) → Heap.SameBut T s.heap h' → Q () { s with heap := h' }) : wpAny (model prog w) A (updateSeq T fun v => v.setIfInBounds k x) Q E s :=
  wpAny_updateSeq hT rfl (h _ (by show Heap.get? _ _ = _; rw [Heap.get?_update_self _ hT rfl]; simp [Obj.mapSeq]) (Heap.SameBut.update ..)) hl (by rw [Array.size_setIfInBounds]; omega)
/-- a turn that draws an item of each -/
theorem next_item {Q : Value → Shared → Prop} (hh : A.handled = none) (n9 : rs.length ≤ 99) (ne : rs ≠ []) (rd : Rowed lo rs) (hi : ∀ r ∈ rs, i < r.us.length) {arr : Array Value}
    (hz : IsZip s.heap (lo + rs.length + 2) (lo + rs.length) (lo + rs.length + 1) .none) (ti : TupC s.heap (lo + rs.length) (rs.map fun r => Value.ref r.it).toArray) (to : TupC s.heap (lo + rs.length + 1) arr) (sz : arr.size = rs.length)
    (ps : ∀ (j : Nat) (r : Sr), rs[j]? = some r → r.pos i s.heap)
    (hQ : ∀ (h' : Heap) (tk : Nat), IsZip h' (lo + rs.length + 2) (lo + rs.length) (lo + rs.length + 1) (rawInt s.heap.objs.size) → TupC h' (lo + rs.length) (rs.map fun r => Value.ref r.it).toArray → TupC h' (lo + rs.length + 1) (its rs i).toArray →
      (∀ (j : Nat) (r : Sr), rs[j]? = some r → r.pos (i + 1) h') → TupC h' s.heap.objs.size (its rs i).toArray → h'.objs.size = s.heap.objs.size + 1 → Fr lo rs.length s.heap h' → Q (.ref s.heap.objs.size) { s with heap := h', toks := tk }) :
    wpAny (model prog w) A (Builtin.«zip.__next__» ⟨[.ref (lo + rs.length + 2)], []⟩) (fun fin s' => ∃ v, fin = .done (.ret v) ∧ Q v s') E s := by
  obtain ⟨hp, g, d, tk0, os⟩ := s
  have nz : rs.length ≠ 0 := fun e => ne (List.eq_nil_of_length_eq_zero e)
  unfold Builtin.«zip.__next__»
  refine wpAny_bind (wpAny_of_eq (a := (Value.ref (lo + rs.length + 2), ([] : List Value))) (by rfl) ?_)
  refine wpAny_bind (wpAny_field hz rfl (x := .bool false) rfl ?_)
  dsimp only
  refine wpAny_bind (wpAny_field hz rfl (x := .ref (lo + rs.length)) rfl (wpAny_bind (wpAny_seqItems ti rfl ?_)))
  dsimp only
  rw [if_neg (by simp [ne])]
  refine wpAny_bind ?_
  unfold Builtin.SmallTypes.ownedTupleIsFree
  refine wpAny_bind (wpAny_field hz rfl (x := .none) rfl (wpAny_pure ?_))
  rw [if_pos rfl]
  refine wpAny_bind (wpAny_rule (wpAny_bind (wpAny_field hz rfl (x := .ref (lo + rs.length + 1)) rfl ?_)))
  dsimp only
  refine wpAny_bind (wpAny_setField_rec hz (by simp) fun g0 hz0 hs0 => ?_)
  have at0 : ∀ (c : Nat) (o : Obj), c ≠ lo + rs.length + 2 → hp.get? c = some o → g0.get? c = some o := fun c o hc e => hs0.extBut _ _ hc e
  have low : ∀ (j : Nat) (r : Sr), rs[j]? = some r → ∀ b : Nat, b = r.it ∨ b = r.a → b < lo + rs.length := fun j r hj b hb => by
    obtain ⟨h1, h2⟩ := rd j r hj
    have jl := (List.getElem?_eq_some_iff.mp hj).1
    rcases hb with e | e
    · have e2 : @Eq Nat b (lo + j) := e.trans h1
      omega
    · have e2 : @LT.lt Nat _ b lo := e ▸ h2
      omega
  have m0 : Mid lo rs i 0 arr .ellipsis g0 := ⟨hz0, at0 _ _ (by omega) ti, at0 _ _ (by omega) to, sz, fun j r hj => by
    rw [if_neg (Nat.not_lt_zero _)]
    exact Sr.keep (ps j r hj) fun b o hb q => at0 b o (by have := low j r hj b hb; omega) q, fun j r _ h => absurd h (Nat.not_lt_zero _)⟩
  refine wpAny_bind (draw_loop (rs := rs) (fun k r arr' s' R hk m q => ?_) rs [] (List.nil_append rs).symm ⟨g0, g, d, tk0, os⟩ arr _ m0 fun h' tk arr' m' sz' fr => ?_)
  · obtain ⟨hp', g', d', tk', os'⟩ := s'
    have rm := List.mem_of_getElem? hk
    have kl := (List.getElem?_eq_some_iff.mp hk).1
    obtain ⟨e1, e2⟩ := rd k r hk
    have D := Sr.draws (prog := prog) (w := w) hh r (Nat.ne_of_lt (show @LT.lt Nat _ r.a r.it by rw [e1]; exact Nat.lt_of_lt_of_le e2 (Nat.le_add_right _ _)))
    have pk := m.ps k r hk
    rw [if_neg (Nat.lt_irrefl _)] at pk
    dsimp only
    refine wpAny_bind (wpAny_onRaise ?_)
    show wpAny _ _ (Builtin.SmallTypes.nextOf (.ref r.it) >>= _) _ _ _
    refine wpAny_bind (D.item i _ _ _ (hi r rm) pk fun x h1 tk1 hx p1 s1 => wpAny_pure ?_)
    have to1 : TupC h1 (lo + rs.length + 1) arr' := s1.extBut _ _ (show @Ne Nat (lo + rs.length + 1) r.it by have e3 : @Eq Nat r.it (lo + k) := e1; omega) m.to
    dsimp only
    refine wpAny_bind (wpAny_seqItems (s := ⟨h1, g', d', tk1, os'⟩) to1 rfl ?_)
    dsimp only
    refine wpAny_bind (upd_cell (s := ⟨h1, g', d', tk1, os'⟩) to1 (by rw [m.sz]; exact Nat.le_trans n9 (by decide)) fun h2 to2 s2 => ?_)
    refine wpAny_bind (wpAny_letGo (wpAny_pure ?_))
    obtain ⟨m2, z2, f2⟩ := m.step rd hk hx p1 s1 to2 s2
    exact q h2 tk1 _ m2 z2 f2
  have ea := m'.all hi
  rw [ea] at m'
  dsimp only
  refine wpAny_bind (wpAny_seqItems (s := ⟨h', g, d, tk, os⟩) m'.to rfl ?_)
  dsimp only
  refine wpAny_bind (wpAny_newTuple (hsz := by rw [its, List.length_map]; exact Nat.le_trans n9 (by decide)) ?_)
  have zl : @LT.lt Nat _ (lo + rs.length + 2) h'.objs.size := Heap.lt_size m'.z
  have es : h'.objs.size = hp.objs.size := sz'.trans hs0.1
  unfold Builtin.SmallTypes.ownedTupleHandOut
  refine wpAny_bind (wpAny_bind (wpAny_setField_rec (Heap.get?_push_of_some _ m'.z) (by simp) fun h1 hz1 s1 => ?_))
  refine wpAny_setField_rec hz1 (by simp) fun h2 hz2 s2 => ?_
  have up : ∀ (c : Nat) (o : Obj), c ≠ lo + rs.length + 2 → h'.get? c = some o → h2.get? c = some o := fun c o hc e => s2.extBut _ _ hc (s1.extBut _ _ hc (Heap.get?_push_of_some _ e))
  have new : TupC h2 h'.objs.size (its rs i).toArray := s2.extBut _ _ (Nat.ne_of_gt zl) (s1.extBut _ _ (Nat.ne_of_gt zl) (Heap.get?_push_size _ rfl))
  have sz2 : h2.objs.size = h'.objs.size + 1 := by rw [s2.1, s1.1, Heap.size_push]
  refine wpAny_pure ⟨_, rfl, ?_⟩
  rw [es] at new sz2
  show Q (.ref h'.objs.size) ⟨h2, g, d, tk, os⟩
  rw [es]
  refine hQ h2 tk (by rw [← es]; exact hz2) (up _ _ (by omega) m'.ti) (up _ _ (by omega) m'.to) (fun j r hj => ?_) new sz2 fun c o hc e => ?_
  · have p := m'.ps j r hj
    rw [if_pos (List.getElem?_eq_some_iff.mp hj).1] at p
    exact Sr.keep p fun b o hb q => up b o (by have := low j r hj b hb; omega) q
  · exact up c o (by omega) (fr c o hc (at0 c o (by omega) e))
end
end Zn

set_option Elab.async false
set_option linter.all false
set_option maxRecDepth 100000
set_option maxHeartbeats 4000000
namespace Zn
open PySem PySem.Spec PyProof.Rows L2
section
variable {prog : Program} {w : World} {A : Around} {E : Value → Shared → Prop} {s : Shared} {lo i : Nat} {rs : List Sr}
/-- the first has no more items -/
theorem next_end {Q : Fin → Shared → Prop} (hh : A.handled = none) {r : Sr} (rd : Rowed lo (r :: rs)) (hi : i = r.us.length) {arr : Array Value}
    (hz : IsZip s.heap (lo + (r :: rs).length + 2) (lo + (r :: rs).length) (lo + (r :: rs).length + 1) .none) (ti : TupC s.heap (lo + (r :: rs).length) ((r :: rs).map fun r => Value.ref r.it).toArray) (p0 : r.pos i s.heap)
    (hE : ∀ (h' : Heap) (tk : Nat) (e : Addr), Fr lo (r :: rs).length s.heap h' → (∃ o, h'.get? e = some o ∧ o.cls = .type "StopIteration") → E (.ref e) { s with heap := h', toks := tk }) :
    wpAny (model prog w) A (Builtin.«zip.__next__» ⟨[.ref (lo + (r :: rs).length + 2)], []⟩) Q E s := by
  obtain ⟨hp, g, d, tk0, os⟩ := s
  obtain ⟨n, hn⟩ : ∃ n, n = (r :: rs).length := ⟨_, rfl⟩
  have nz : 0 < n := by rw [hn]; exact Nat.succ_pos _
  rw [← hn] at hz ti hE ⊢
  obtain ⟨e1, e2⟩ := rd 0 r rfl
  have e1' : @Eq Nat r.it lo := e1
  have e2' : @LT.lt Nat _ r.a lo := e2
  unfold Builtin.«zip.__next__»
  refine wpAny_bind (wpAny_of_eq (a := (Value.ref (lo + n + 2), ([] : List Value))) (by rfl) ?_)
  refine wpAny_bind (wpAny_field hz rfl (x := .bool false) rfl ?_)
  dsimp only
  refine wpAny_bind (wpAny_field hz rfl (x := .ref (lo + n)) rfl (wpAny_bind (wpAny_seqItems ti rfl ?_)))
  dsimp only
  rw [if_neg (by simp)]
  refine wpAny_bind ?_
  unfold Builtin.SmallTypes.ownedTupleIsFree
  refine wpAny_bind (wpAny_field hz rfl (x := .none) rfl (wpAny_pure ?_))
  rw [if_pos rfl]
  refine wpAny_bind (wpAny_rule (wpAny_bind (wpAny_field hz rfl (x := .ref (lo + n + 1)) rfl ?_)))
  dsimp only
  refine wpAny_bind (wpAny_setField_rec hz (by simp) fun g0 hz0 hs0 => ?_)
  rw [List.map_cons, List.zipIdx_cons, List.forIn_cons]
  dsimp only
  refine wpAny_bind (wpAny_bind (wpAny_bind (wpAny_onRaise ?_)))
  show wpAny _ _ (Builtin.SmallTypes.nextOf (.ref r.it) >>= _) _ _ _
  have D := Sr.draws (prog := prog) (w := w) hh r (Nat.ne_of_lt (show @LT.lt Nat _ r.a r.it by omega))
  have p1 : r.pos r.us.length g0 := by
    rw [← hi]
    exact Sr.keep p0 fun b o hb q => hs0.extBut _ _ (show @Ne Nat b (lo + n + 2) by
      rcases hb with e | e
      · have e' : @Eq Nat b r.it := e
        omega
      · have e' : @Eq Nat b r.a := e
        omega) q
  refine wpAny_bind (D.done ⟨g0, g, d, tk0, os⟩ _ _ p1 fun q e hq he => ?_)
  obtain ⟨oe, hoe, hce⟩ := he
  have hzq := hq _ _ (show @Ne Nat (lo + n + 2) r.it by omega) hz0
  have hez : e ≠ lo + n + 2 := fun x => by
    rw [x, hzq] at hoe
    cases hoe
    simp at hce
  refine wpAny_setField_rec (s := ⟨q, g, d, tk0, os⟩) hzq (by simp) fun q' _ hq' => ?_
  exact hE q' tk0 e (fun c o hc x => hq'.extBut _ _ (show @Ne Nat c (lo + n + 2) by omega) (hq _ _ (show @Ne Nat c r.it by omega) (hs0.extBut _ _ (show @Ne Nat c (lo + n + 2) by omega) x))) ⟨oe, hq'.extBut _ _ hez hoe, hce⟩
/-- by pyNext -/
theorem py_item {Q : Option Value → Shared → Prop} (hh : A.in1.handled = none) (n9 : rs.length ≤ 99) (ne : rs ≠ []) (rd : Rowed lo rs) (hi : ∀ r ∈ rs, i < r.us.length) {arr : Array Value}
    (hz : IsZip s.heap (lo + rs.length + 2) (lo + rs.length) (lo + rs.length + 1) .none) (ti : TupC s.heap (lo + rs.length) (rs.map fun r => Value.ref r.it).toArray) (to : TupC s.heap (lo + rs.length + 1) arr) (sz : arr.size = rs.length)
    (ps : ∀ (j : Nat) (r : Sr), rs[j]? = some r → r.pos i s.heap)
    (hQ : ∀ (h' : Heap) (tk : Nat), IsZip h' (lo + rs.length + 2) (lo + rs.length) (lo + rs.length + 1) (rawInt s.heap.objs.size) → TupC h' (lo + rs.length) (rs.map fun r => Value.ref r.it).toArray → TupC h' (lo + rs.length + 1) (its rs i).toArray →
      (∀ (j : Nat) (r : Sr), rs[j]? = some r → r.pos (i + 1) h') → TupC h' s.heap.objs.size (its rs i).toArray → h'.objs.size = s.heap.objs.size + 1 → Fr lo rs.length s.heap h' → Q (some (.ref s.heap.objs.size)) { s with heap := h', toks := tk }) :
    wpAny (model prog w) A (pyNext (.ref (lo + rs.length + 2))) Q E s := by
  have zt : s.TypeIs (.ref (lo + rs.length + 2)) "zip" := ⟨_, hz, rfl⟩
  unfold pyNext
  refine wpAny_bind (wpAny_attempt (wpAny_callSpecial?_slot (name := Str.ofString "__next__") zt F.slot_zip_next (wpAny_call_entry F.slot_zip_next zt F.entry_zip_next (next_item hh n9 ne rd hi hz ti to sz ps fun h' tk a b c d e f g => ?_) (F.args_zip_next_1 _))))
  exact wpAny_pure (hQ h' tk a b c d e f g)
theorem py_end {Q : Option Value → Shared → Prop} (hh : A.in1.handled = none) {r : Sr} (rd : Rowed lo (r :: rs)) (hi : i = r.us.length) {arr : Array Value}
    (hz : IsZip s.heap (lo + (r :: rs).length + 2) (lo + (r :: rs).length) (lo + (r :: rs).length + 1) .none) (ti : TupC s.heap (lo + (r :: rs).length) ((r :: rs).map fun r => Value.ref r.it).toArray) (p0 : r.pos i s.heap)
    (hQ : ∀ (h' : Heap) (tk : Nat), Fr lo (r :: rs).length s.heap h' → Q none { s with heap := h', toks := tk }) : wpAny (model prog w) A (pyNext (.ref (lo + (r :: rs).length + 2))) Q E s := by
  have zt : s.TypeIs (.ref (lo + (r :: rs).length + 2)) "zip" := ⟨_, hz, rfl⟩
  unfold pyNext
  refine wpAny_bind (wpAny_attempt (wpAny_callSpecial?_slot (name := Str.ofString "__next__") zt F.slot_zip_next (wpAny_call_entry F.slot_zip_next zt F.entry_zip_next (next_end (arr := arr) hh rd hi hz ti p0 fun h' tk e fr he => ?_) (F.args_zip_next_1 _))))
  obtain ⟨o, ho, hc⟩ := he
  exact wpAny_bind (wpAny_isInstance (T := "StopIteration") (b := true) ⟨o, ho, hc⟩ isSubtype_stop (wpAny_pure (hQ _ _ fr)))
end
end Zn

set_option Elab.async false
set_option linter.all false
set_option maxRecDepth 100000
set_option maxHeartbeats 4000000
namespace Zn
open PySem PySem.Spec PyProof.Rows L2
/-! zip of four -/
def h4 (h : Heap) (o1 o2 o3 o4 : Obj) : Heap := (((h.push o1).push o2).push o3).push o4
def hT4 (h : Heap) (o1 o2 o3 o4 : Obj) : Heap := (h4 h o1 o2 o3 o4).push { cls := .type "tuple", data := .seq #[.ref h.objs.size, .ref (h.push o1).objs.size, .ref ((h.push o1).push o2).objs.size, .ref (((h.push o1).push o2).push o3).objs.size] }
def hO4 (h : Heap) (o1 o2 o3 o4 : Obj) : Heap := (hT4 h o1 o2 o3 o4).push { cls := .type "tuple", data := .seq #[.none, .none, .none, .none] }
def hZ4 (h : Heap) (o1 o2 o3 o4 : Obj) : Heap := (hO4 h o1 o2 o3 o4).push { cls := .type "zip", data := .fields #[.none, .bool false, .bool false, .ref (h4 h o1 o2 o3 o4).objs.size, .ref (hT4 h o1 o2 o3 o4).objs.size] }
theorem type4 (a b c d : Value) : checkTypeCall "zip" ⟨[a, b, c, d], []⟩ = pure () := by kernel_rfl
theorem new4 (a b c d : Value) : checkBuiltinCall "zip.__new__" ⟨[.type "zip", a, b, c, d], []⟩ = pure () := by kernel_rfl
theorem init4 (obj a b c d : Value) : argsOk "object.__init__" ⟨[obj, a, b, c, d], []⟩ := by unfold argsOk; kernel_rfl
theorem meets4 {v1 v2 v3 v4 : Value} {o1 o2 o3 o4 : Obj} {H1 H2 H3 H4 : Heap → Prop} (B1 : Begins v1 o1 H1) (B2 : Begins v2 o2 H2) (B3 : Begins v3 o3 H3) (B4 : Begins v4 o4 H4) :
    Meets (Builtin.«zip.__new__» ⟨[.type "zip", v1, v2, v3, v4], []⟩) (fun _ R s => (H1 s.heap ∧ H2 s.heap ∧ H3 s.heap ∧ H4 s.heap) ∧ R (.ok (.ret (.ref (hO4 s.heap o1 o2 o3 o4).objs.size))) { s with heap := hZ4 s.heap o1 o2 o3 o4 }) :=
  .of_wp fun prog w A R s h => by
    obtain ⟨hp, g, d, tk, os⟩ := s; obtain ⟨⟨g1, g2, g3, g4⟩, h⟩ := h
    have sub := sub_zip
    have up := fun (h : Heap) (o : Obj) (b : Addr) (o' : Obj) (e : h.get? b = some o') => Heap.get?_push_of_some o e
    have q1 : ∀ {A' : Around} {E Q : Value → Shared → Prop}, Q (.ref hp.objs.size) ⟨hp.push o1, g, d, tk, os⟩ → wpAny (model prog w) A' (pyIter v1) Q E ⟨hp, g, d, tk, os⟩ := fun q => B1.iter prog w _ _ _ _ g1 q
    have q2 : ∀ {A' : Around} {E Q : Value → Shared → Prop}, Q (.ref (hp.push o1).objs.size) ⟨(hp.push o1).push o2, g, d, tk, os⟩ → wpAny (model prog w) A' (pyIter v2) Q E ⟨hp.push o1, g, d, tk, os⟩ := fun q => B2.iter prog w _ _ ⟨hp.push o1, g, d, tk, os⟩ _ (B2.keeps _ _ g2 (up _ _)) q
    have q3 : ∀ {A' : Around} {E Q : Value → Shared → Prop}, Q (.ref ((hp.push o1).push o2).objs.size) ⟨((hp.push o1).push o2).push o3, g, d, tk, os⟩ → wpAny (model prog w) A' (pyIter v3) Q E ⟨(hp.push o1).push o2, g, d, tk, os⟩ := fun q => B3.iter prog w _ _ ⟨(hp.push o1).push o2, g, d, tk, os⟩ _ (B3.keeps _ _ g3 fun b o e => up _ _ b o (up _ _ b o e)) q
    have q4 : ∀ {A' : Around} {E Q : Value → Shared → Prop}, Q (.ref (((hp.push o1).push o2).push o3).objs.size) ⟨(((hp.push o1).push o2).push o3).push o4, g, d, tk, os⟩ → wpAny (model prog w) A' (pyIter v4) Q E ⟨((hp.push o1).push o2).push o3, g, d, tk, os⟩ := fun q => B4.iter prog w _ _ ⟨((hp.push o1).push o2).push o3, g, d, tk, os⟩ _ (B4.keeps _ _ g4 fun b o e => up _ _ b o (up _ _ b o (up _ _ b o e))) q
    wp_walk using q1, q2, q3, q4
    exact ⟨_, rfl, h⟩
section
variable {prog : Program} {w : World} {A : Around} {E : Value → Shared → Prop} {s : Shared}
theorem begins4 {v1 v2 v3 v4 : Value} {o1 o2 o3 o4 : Obj} {H1 H2 H3 H4 : Heap → Prop} {Q : Value → Shared → Prop} (B1 : Begins v1 o1 H1) (B2 : Begins v2 o2 H2) (B3 : Begins v3 o3 H3) (B4 : Begins v4 o4 H4) (h1 : H1 s.heap) (h2 : H2 s.heap) (h3 : H3 s.heap) (h4 : H4 s.heap)
    (q : ∀ (h' : Heap) (lo : Nat), lo = s.heap.objs.size → IsZip h' (lo + 6) (lo + 4) (lo + 5) .none → TupC h' (lo + 4) #[.ref lo, .ref (lo + 1), .ref (lo + 2), .ref (lo + 3)] → TupC h' (lo + 5) #[.none, .none, .none, .none] →
      h'.get? lo = some o1 → h'.get? (lo + 1) = some o2 → h'.get? (lo + 2) = some o3 → h'.get? (lo + 3) = some o4 → (∀ c o, s.heap.get? c = some o → h'.get? c = some o) → Q (.ref (lo + 6)) { s with heap := h' }) :
    wpAny (model prog w) A (call (.type "zip") [v1, v2, v3, v4]) Q E s := by
  refine callType_new F.called_zip (by decide) (type4 _ _ _ _) (new4 _ _ _ _) (fun obj => init4 obj _ _ _ _) F.entry_zip_new (meets4 B1 B2 B3 B4) ⟨⟨h1, h2, h3, h4⟩, ?_⟩
  have z1 : (s.heap.push o1).objs.size = s.heap.objs.size + 1 := Heap.size_push ..
  have z2 : ((s.heap.push o1).push o2).objs.size = s.heap.objs.size + 2 := by rw [Heap.size_push, z1]
  have z3 : (((s.heap.push o1).push o2).push o3).objs.size = s.heap.objs.size + 3 := by rw [Heap.size_push, z2]
  have z4 : (Zn.h4 s.heap o1 o2 o3 o4).objs.size = s.heap.objs.size + 4 := by unfold Zn.h4; rw [Heap.size_push, z3]
  have z5 : (hT4 s.heap o1 o2 o3 o4).objs.size = s.heap.objs.size + 5 := by unfold hT4; rw [Heap.size_push, z4]
  have z6 : (hO4 s.heap o1 o2 o3 o4).objs.size = s.heap.objs.size + 6 := by unfold hO4; rw [Heap.size_push, z5]
  have up : ∀ {h : Heap} {b : Addr} {o o' : Obj}, h.get? b = some o' → (h.push o).get? b = some o' := fun e => Heap.get?_push_of_some _ e
  have gZ : (hZ4 s.heap o1 o2 o3 o4).get? (hO4 s.heap o1 o2 o3 o4).objs.size = some { cls := .type "zip", data := .fields #[.none, .bool false, .bool false, .ref (Zn.h4 s.heap o1 o2 o3 o4).objs.size, .ref (hT4 s.heap o1 o2 o3 o4).objs.size] } := Heap.get?_push_size _ rfl
  have gO : TupC (hZ4 s.heap o1 o2 o3 o4) (hT4 s.heap o1 o2 o3 o4).objs.size #[.none, .none, .none, .none] := up (Heap.get?_push_size _ rfl)
  have gT : TupC (hZ4 s.heap o1 o2 o3 o4) (Zn.h4 s.heap o1 o2 o3 o4).objs.size #[.ref s.heap.objs.size, .ref (s.heap.push o1).objs.size, .ref ((s.heap.push o1).push o2).objs.size, .ref (((s.heap.push o1).push o2).push o3).objs.size] := up (up (Heap.get?_push_size _ rfl))
  have e4 : (hZ4 s.heap o1 o2 o3 o4).get? (((s.heap.push o1).push o2).push o3).objs.size = some o4 := up (up (up (Heap.get?_push_size _ B4.free)))
  have e3 : (hZ4 s.heap o1 o2 o3 o4).get? ((s.heap.push o1).push o2).objs.size = some o3 := up (up (up (up (Heap.get?_push_size _ B3.free))))
  have e2 : (hZ4 s.heap o1 o2 o3 o4).get? (s.heap.push o1).objs.size = some o2 := up (up (up (up (up (Heap.get?_push_size _ B2.free)))))
  have e1 : (hZ4 s.heap o1 o2 o3 o4).get? s.heap.objs.size = some o1 := up (up (up (up (up (up (Heap.get?_push_size _ B1.free))))))
  rw [z6, z5, z4] at gZ
  rw [z5] at gO
  rw [z4, z3, z2, z1] at gT
  rw [z3] at e4
  rw [z2] at e3
  rw [z1] at e2
  show _ ∧ _
  rw [z6]
  exact ⟨⟨_, gZ, rfl⟩, q _ _ rfl gZ gT gO e1 e2 e3 e4 fun c o e => up (up (up (up (up (up (up e))))))⟩
end
end Zn

set_option Elab.async false
set_option linter.all false
set_option maxRecDepth 100000
set_option maxHeartbeats 4000000
namespace Zn
open PySem PySem.Spec PyProof.Rows L2
/-- a list, or a tuple (true) -/
abbrev Sc := Bool × Addr
def SqX (K : PySem.W.Frag) (H : Hp) (s : Sc) (xs : List V) : Prop := (s.1 = true → SqT K H s.2 xs) ∧ (s.1 = false → SqL K H s.2 xs)
theorem SqX.lst {K : PySem.W.Frag} {H : Hp} {a : Addr} {xs : List V} (h : SqL K H a xs) : SqX K H (false, a) xs := ⟨(fun e => nomatch e), fun _ => h⟩
theorem SqX.tup {K : PySem.W.Frag} {H : Hp} {a : Addr} {xs : List V} (h : SqT K H a xs) : SqX K H (true, a) xs := ⟨fun _ => h, fun e => nomatch e⟩
/-- zip of any number of lists and tuples -/
def ItN (K : PySem.W.Frag) (ss : List Sc) : It :=
  ⟨fun i H => ∃ L : List (List V), Paired (SqX K H) ss L ∧ ∀ xs ∈ L, i < xs.length,
    fun i H v H' => ∃ (T : Addr) (vs : List V), v = .ref T ∧ H T = none ∧ H' = upd H T (.tup vs) ∧ ∀ L : List (List V), Paired (SqX K H) ss L → Paired (fun xs x => xs[i]? = some x) L vs,
    fun i H => ∃ L : List (List V), Paired (SqX K H) ss L ∧ ∀ xs ∈ L, xs.length = i⟩
/-- the zip stands, i turns done -/
structure TnN (lo : Nat) (ss : List Sc) (i : Nat) (h : Heap) : Prop where
  z : IsZip h (lo + ss.length + 2) (lo + ss.length) (lo + ss.length + 1) .none
  ti : TupC h (lo + ss.length) ((List.range ss.length).map fun j => Value.ref (lo + j)).toArray
  to : ∃ arr : Array Value, TupC h (lo + ss.length + 1) arr ∧ arr.size = ss.length
  ps : ∀ (j : Nat) (s : Sc), ss[j]? = some s → (s.1 = true → h.IsTupleIter (lo + j) s.2 i) ∧ (s.1 = false → h.IsListIter (lo + j) s.2 i)
def cells (lo n : Nat) : List Addr := (List.range (n + 3)).map fun j => lo + j
theorem mem_cells {lo n : Nat} {b : Nat} : b ∈ cells lo n ↔ lo ≤ b ∧ b < lo + n + 3 := by
  unfold cells
  constructor
  · intro h
    obtain ⟨j, hj, rfl⟩ := List.mem_map.mp h
    have := List.mem_range.mp hj
    omega
  · intro h
    exact List.mem_map.mpr ⟨b - lo, List.mem_range.mpr (by omega), by omega⟩
theorem vals_of : ∀ {xs : List V} {us : List Value}, xs.length = us.length → (∀ (j : Nat) (x : V) (u : Value), xs[j]? = some x → us[j]? = some u → RelV x u) → Vals xs us
  | [], [], _, _ => .nil
  | x :: xs, u :: us, hl, h => .cons (h 0 x u rfl rfl) (vals_of (Nat.succ.inj hl) fun j a b ha hb => h (j + 1) a b ha hb)
theorem paired_idx {α β : Type} {R : α → β → Prop} : ∀ {xs : List α} {ys : List β}, xs.length = ys.length → (∀ (j : Nat) (x : α) (y : β), xs[j]? = some x → ys[j]? = some y → R x y) → Paired R xs ys
  | [], [], _, _ => .nil
  | x :: xs, y :: ys, hl, h => .cons (h 0 x y rfl rfl) (paired_idx (Nat.succ.inj hl) fun j a b ha hb => h (j + 1) a b ha hb)
theorem paired_at {α β : Type} {R : α → β → Prop} : ∀ {xs : List α} {ys : List β} (_ : Paired R xs ys) (j : Nat) (x : α) (y : β), xs[j]? = some x → ys[j]? = some y → R x y
  | _, _, .nil, j, x, y, e, _ => by cases e
  | _, _, .cons a r, 0, x, y, e, f => by
    cases Option.some.inj e
    cases Option.some.inj f
    exact a
  | _, _, .cons a r, j + 1, x, y, e, f => paired_at r j x y e f
section
variable {X : Cx} {pins : List (Addr × Obj)} {σ : L2.St} {H : Hp} {s : Shared}
/-- what is drawn from, as it stands -/
theorem gather (I : Inv X pins σ H s) (lo : Nat) : ∀ {ss : List Sc} {L : List (List V)} (_ : Paired (SqX X.K H) ss L) (k : Nat), ∃ rs : List Sr, rs.length = ss.length ∧ ∀ (j : Nat) (c : Sc) (xs : List V), ss[j]? = some c → L[j]? = some xs →
    ∃ r, rs[j]? = some r ∧ r.it = lo + (k + j) ∧ r.a = c.2 ∧ r.tu = c.1 ∧ Vals xs r.us ∧ (c.1 = true → s.heap.IsTuple c.2 r.us.toArray) ∧ (c.1 = false → s.heap.IsList c.2 r.us.toArray)
  | _, _, .nil, k => ⟨[], rfl, fun j c xs e _ => by cases e⟩
  | c :: ss, xs :: L, .cons a p, k => by
    obtain ⟨rs, h1, h2⟩ := gather I lo p (k + 1)
    obtain ⟨us, v1, v2⟩ : ∃ us : List Value, Vals xs us ∧ (c.1 = true → s.heap.IsTuple c.2 us.toArray) ∧ (c.1 = false → s.heap.IsList c.2 us.toArray) := by
      cases hc : c.1 with
      | true =>
        obtain ⟨us, r, q, _⟩ := I.tuple (a.1 hc)
        exact ⟨us, r, fun _ => q, fun e => by cases e⟩
      | false =>
        obtain ⟨us, r, q, _⟩ := I.list (a.2 hc)
        exact ⟨us, r, fun e => (by cases e), fun _ => q.isList⟩
    refine ⟨⟨lo + k, c.2, c.1, us⟩ :: rs, congrArg (· + 1) h1, fun j c' xs' e f => ?_⟩
    cases j with
    | zero =>
      cases Option.some.inj e
      cases Option.some.inj f
      exact ⟨_, rfl, rfl, rfl, rfl, v1, v2⟩
    | succ j =>
      obtain ⟨r, g1, g2, g3⟩ := h2 j c' xs' e f
      exact ⟨r, g1, by rw [g2]; congr 1; omega, g3⟩
end
theorem turnN {P : Program} {w : World} {K : PySem.W.Frag} {elts : List Expr} {kk : Nat} {tpos : Pos} {lo : Nat} {ss : List Sc} (n9 : ss.length ≤ 99) (ne : ss ≠ []) (below : ∀ c ∈ ss, @LT.lt Nat _ c.2 lo) :
    Turn P w K (.Tuple elts kk tpos) (ItN K ss) (cells lo ss.length) (lo + ss.length + 2) (TnN lo ss) where
  mem := mem_cells.mpr ⟨by omega, by omega⟩
  obj := fun i h st b hb => by
    obtain ⟨b1, b2⟩ := mem_cells.mp hb
    have cs : @Eq Nat b (lo + ss.length + 2) ∨ @Eq Nat b (lo + ss.length) ∨ @Eq Nat b (lo + ss.length + 1) ∨ ∃ j, j < ss.length ∧ @Eq Nat b (lo + j) := by
      by_cases hj : @LT.lt Nat _ b (lo + ss.length)
      · exact .inr (.inr (.inr ⟨b - lo, by omega, by omega⟩))
      · omega
    rcases cs with e | e | e | ⟨j, hj, e⟩
    · rw [show b = lo + ss.length + 2 from e]
      exact ⟨_, st.z, fun v q => nomatch q⟩
    · rw [show b = lo + ss.length from e]
      exact ⟨_, st.ti, fun v q => nomatch q⟩
    · obtain ⟨arr, ha, _⟩ := st.to
      rw [show b = lo + ss.length + 1 from e]
      exact ⟨_, ha, fun v q => nomatch q⟩
    · rw [show b = lo + j from e]
      obtain ⟨p1, p2⟩ := st.ps j _ (List.getElem?_eq_getElem hj)
      cases hc : (ss[j]).1 with
      | true =>
        obtain ⟨o, e1, _, d1⟩ := p1 hc
        exact ⟨o, e1, fun v q => by rw [d1] at q; cases q⟩
      | false =>
        obtain ⟨o, e1, _, d1⟩ := p2 hc
        exact ⟨o, e1, fun v q => by rw [d1] at q; cases q⟩
  keep := fun i h h' st k => by
    have up : ∀ (b : Nat) (o : Obj), lo ≤ b → b < lo + ss.length + 3 → h.get? b = some o → h'.get? b = some o := fun b o h1 h2 e => k b (mem_cells.mpr ⟨h1, h2⟩) o e
    obtain ⟨arr, ha, hs⟩ := st.to
    refine ⟨up _ _ (by omega) (by omega) st.z, up _ _ (by omega) (by omega) st.ti, ⟨arr, up _ _ (by omega) (by omega) ha, hs⟩, fun j c hj => ?_⟩
    have jl := (List.getElem?_eq_some_iff.mp hj).1
    obtain ⟨p1, p2⟩ := st.ps j c hj
    exact ⟨fun e => (p1 e).at fun o q => up _ _ (by omega) (by omega) q, fun e => (p2 e).at fun o q => up _ _ (by omega) (by omega) q⟩
  item := by
    intro X hP hw hK hc i pins s σ H E I hf st hg
    subst hP hw hK
    obtain ⟨L, pq, hlt⟩ := hg
    obtain ⟨rs, lrs, ga⟩ := gather I lo pq 0
    have lL := pq.length
    have hh : X.A.in1.handled = none := I.ok.hd hc
    obtain ⟨arr, hTO, sz⟩ := st.to
    have at' : ∀ (j : Nat) (r : Sr), rs[j]? = some r → ∃ c xs, ss[j]? = some c ∧ L[j]? = some xs ∧ r.it = lo + j ∧ r.a = c.2 ∧ r.tu = c.1 ∧ Vals xs r.us ∧ (c.1 = true → s.heap.IsTuple c.2 r.us.toArray) ∧ (c.1 = false → s.heap.IsList c.2 r.us.toArray) := fun j r hj => by
      have jl := (List.getElem?_eq_some_iff.mp hj).1
      have h1 : ss[j]? = some (ss[j]'(by omega)) := List.getElem?_eq_getElem (by omega)
      have h2 : L[j]? = some (L[j]'(by omega)) := List.getElem?_eq_getElem (by omega)
      obtain ⟨r', g1, g2, g3, g4, g5, g6⟩ := ga j _ _ h1 h2
      rw [hj] at g1
      cases Option.some.inj g1
      exact ⟨_, _, h1, h2, by rw [g2]; congr 1; omega, g3, g4, g5, g6⟩
    have ir : ∀ r ∈ rs, i < r.us.length := fun r hr => by
      obtain ⟨j, hj⟩ := List.getElem?_of_mem hr
      obtain ⟨c, xs, h1, h2, _, _, _, v, _⟩ := at' j r hj
      rw [← v.length]
      exact hlt xs (List.mem_of_getElem? h2)
    have rd : Rowed lo rs := fun j r hj => by
      obtain ⟨c, xs, h1, h2, e1, e2, _⟩ := at' j r hj
      exact ⟨e1, by rw [e2]; exact below c (List.mem_of_getElem? h1)⟩
    have nr : rs ≠ [] := fun e => ne (List.eq_nil_of_length_eq_zero (by rw [← lrs, e]; rfl))
    have refs : (rs.map fun r => Value.ref r.it) = (List.range ss.length).map fun j => Value.ref (lo + j) := by
      refine List.ext_getElem? fun j => ?_
      rw [List.getElem?_map, List.getElem?_map]
      by_cases hj : j < ss.length
      · have h1 : rs[j]? = some (rs[j]'(by omega)) := List.getElem?_eq_getElem (by omega)
        obtain ⟨c, xs, _, _, e1, _⟩ := at' j _ h1
        rw [h1, List.getElem?_range hj]
        show some (Value.ref (rs[j]'(by omega)).it) = some (Value.ref (lo + j))
        rw [e1]
      · rw [List.getElem?_eq_none (by omega), List.getElem?_eq_none (by rw [List.length_range]; omega)]
        rfl
    have ps : ∀ (j : Nat) (r : Sr), rs[j]? = some r → r.pos i s.heap := fun j r hj => by
      obtain ⟨c, xs, h1, h2, e1, e2, e3, v, t1, t2⟩ := at' j r hj
      obtain ⟨p1, p2⟩ := st.ps j c h1
      unfold Sr.pos
      rw [e1, e2, e3]
      exact ⟨fun e => ⟨p1 e, t1 e⟩, fun e => ⟨p2 e, t2 e⟩⟩
    have zz := st.z
    have ti := st.ti
    rw [← refs] at ti
    have hf' := hf
    rw [← lrs] at zz ti hTO sz n9 hf' ⊢
    refine py_item (s := s) hh n9 nr rd ir zz ti hTO sz ps fun h' tk z' TI' TO' ps' hT hsz fr => ?_
    have hzl : @LT.lt Nat _ (lo + rs.length + 2) s.heap.objs.size := Heap.lt_size zz
    refine ⟨_, rfl, wpAny_letOwnedTupleGo_zip (s := { s with heap := h', toks := tk }) z' fun h'' z'' sb => ?_⟩
    obtain ⟨vs, hvs⟩ : ∃ vs : List V, vs = L.map fun xs => (xs[i]?).getD .non := ⟨_, rfl⟩
    have lvs : vs.length = rs.length := by rw [hvs, List.length_map]; omega
    have rel : Vals vs (its rs i) := by
      refine vals_of (by rw [lvs]; unfold its; rw [List.length_map]) fun j x u hx hu => ?_
      rw [hvs, List.getElem?_map] at hx
      unfold its at hu
      rw [List.getElem?_map] at hu
      cases hr : rs[j]? with
      | none =>
        rw [hr] at hu
        cases hu
      | some r =>
        obtain ⟨c, xs, h1, h2, e1, e2, e3, v, _⟩ := at' j r hr
        rw [hr] at hu
        rw [h2] at hx
        obtain ⟨u', hu', ru⟩ := v.get (List.getElem?_eq_getElem (hlt xs (List.mem_of_getElem? h2)))
        have eu : (r.us[i]?).getD .none = u := Option.some.inj hu
        have ex : (xs[i]?).getD .non = x := Option.some.inj hx
        rw [hu'] at eu
        rw [List.getElem?_eq_getElem (hlt xs (List.mem_of_getElem? h2))] at ex
        rw [← eu, ← ex]
        exact ru
    have hT2 : TupC h'' s.heap.objs.size (its rs i).toArray := (sb.2 _ (Nat.ne_of_gt hzl)).trans hT
    have new : ObjOk X.prog X.w (upd H s.heap.objs.size (.tup vs)) h'' s.heap.objs.size (.tup vs) := ⟨by rw [lvs]; exact Nat.le_trans n9 (by decide), its rs i, rel, ⟨_, hT2, rfl, _, rfl⟩⟩
    have I1 := I.turnedNew (t' := tk) (ch := cells lo rs.length) (h' := h'') (fun d o hb q => (sb.2 d (fun q' => hb (by rw [q']; exact mem_cells.mpr ⟨by omega, by omega⟩))).trans (fr d o (by
      by_cases h : @LT.lt Nat _ d lo
      · exact .inl h
      · refine .inr ?_
        by_cases h2 : @LT.lt Nat _ d (lo + rs.length + 3)
        · exact absurd (mem_cells.mpr ⟨by omega, h2⟩) hb
        · omega) q)) hf' (Nat.le_refl _) new
    refine ⟨.ref s.heap.objs.size, _, I1, rfl, ⟨_, vs, rfl, I.hok.fresh (Nat.le_refl _), rfl, fun L' pq' => ?_⟩, ?_, fun d hdm => ?_⟩
    · have lL' := pq'.length
      refine paired_idx (by omega) fun j xs x hx hv => ?_
      have jl := (List.getElem?_eq_some_iff.mp hx).1
      have h1 : ss[j]? = some (ss[j]'(by omega)) := List.getElem?_eq_getElem (by omega)
      have h2 : L[j]? = some (L[j]'(by omega)) := List.getElem?_eq_getElem (by omega)
      have q1 := paired_at pq j _ _ h1 h2
      have q2 := paired_at pq' j _ _ h1 hx
      have exs : xs = L[j]'(by omega) := by
        cases hc : (ss[j]'(by omega)).1 with
        | true => exact I.tuple_inj (q2.1 hc) (q1.1 hc)
        | false => exact I.list_inj (q2.2 hc) (q1.2 hc)
      rw [hvs, List.getElem?_map, h2] at hv
      have ev : ((L[j]'(by omega))[i]?).getD .non = x := Option.some.inj hv
      have il := hlt _ (List.mem_of_getElem? h2)
      rw [exs, ← ev, List.getElem?_eq_getElem il]
      rfl
    · have up : ∀ (c : Nat) (o : Obj), c ≠ lo + rs.length + 2 → h'.get? c = some o → h''.get? c = some o := fun c o hc e => (sb.2 c hc).trans e
      refine ⟨?_, ?_, ⟨(its rs i).toArray, ?_, ?_⟩, fun j c hj => ?_⟩
      · rw [← lrs]
        exact z''
      · rw [← refs, ← lrs]
        exact up _ _ (by omega) TI'
      · rw [← lrs]
        exact up _ _ (by omega) TO'
      · rw [← lrs]
        simp [its]
      · have jl := (List.getElem?_eq_some_iff.mp hj).1
        have h1 : rs[j]? = some (rs[j]'(by omega)) := List.getElem?_eq_getElem (by omega)
        obtain ⟨c', xs, g1, g2, e1, e2, e3, _⟩ := at' j _ h1
        rw [hj] at g1
        cases Option.some.inj g1
        have p := ps' j _ h1
        unfold Sr.pos at p
        rw [e1, e2, e3] at p
        exact ⟨fun e => (p.1 e).1.at fun o q => up _ _ (by omega) q, fun e => (p.2 e).1.at fun o q => up _ _ (by omega) q⟩
    · obtain ⟨d1, d2⟩ := mem_cells.mp hdm
      rw [upd_ne (Nat.ne_of_lt (show @LT.lt Nat _ d s.heap.objs.size by omega))]
      exact (hf' d hdm).1
  done := by
    intro X hP hw hK hc i pins s σ H E I hf st hg
    subst hP hw hK
    obtain ⟨L, pq, heq⟩ := hg
    obtain ⟨rs, lrs, ga⟩ := gather I lo pq 0
    have lL := pq.length
    have hh : X.A.in1.handled = none := I.ok.hd hc
    have at' : ∀ (j : Nat) (r : Sr), rs[j]? = some r → ∃ c xs, ss[j]? = some c ∧ L[j]? = some xs ∧ r.it = lo + j ∧ r.a = c.2 ∧ r.tu = c.1 ∧ Vals xs r.us ∧ (c.1 = true → s.heap.IsTuple c.2 r.us.toArray) ∧ (c.1 = false → s.heap.IsList c.2 r.us.toArray) := fun j r hj => by
      have jl := (List.getElem?_eq_some_iff.mp hj).1
      have h1 : ss[j]? = some (ss[j]'(by omega)) := List.getElem?_eq_getElem (by omega)
      have h2 : L[j]? = some (L[j]'(by omega)) := List.getElem?_eq_getElem (by omega)
      obtain ⟨r', g1, g2, g3, g4, g5, g6⟩ := ga j _ _ h1 h2
      rw [hj] at g1
      cases Option.some.inj g1
      exact ⟨_, _, h1, h2, by rw [g2]; congr 1; omega, g3, g4, g5, g6⟩
    have rd : Rowed lo rs := fun j r hj => by
      obtain ⟨c, xs, h1, h2, e1, e2, _⟩ := at' j r hj
      exact ⟨e1, by rw [e2]; exact below c (List.mem_of_getElem? h1)⟩
    have refs : (rs.map fun r => Value.ref r.it) = (List.range ss.length).map fun j => Value.ref (lo + j) := by
      refine List.ext_getElem? fun j => ?_
      rw [List.getElem?_map, List.getElem?_map]
      by_cases hj : j < ss.length
      · have h1 : rs[j]? = some (rs[j]'(by omega)) := List.getElem?_eq_getElem (by omega)
        obtain ⟨c, xs, _, _, e1, _⟩ := at' j _ h1
        rw [h1, List.getElem?_range hj]
        show some (Value.ref (rs[j]'(by omega)).it) = some (Value.ref (lo + j))
        rw [e1]
      · rw [List.getElem?_eq_none (by omega), List.getElem?_eq_none (by rw [List.length_range]; omega)]
        rfl
    have zz := st.z
    have ti := st.ti
    have hf' := hf
    rw [← refs] at ti
    rw [← lrs] at zz ti hf' ⊢
    match rs, lrs, at', rd, zz, ti, hf' with
    | [], lrs, _, _, _, _, _ => exact absurd (List.eq_nil_of_length_eq_zero lrs.symm) ne
    | r :: rs, lrs, at', rd, zz, ti, hf' =>
      obtain ⟨c, xs, h1, h2, e1, e2, e3, v, t1, t2⟩ := at' 0 r rfl
      obtain ⟨p1, p2⟩ := st.ps 0 c h1
      have p0 : r.pos i s.heap := by
        unfold Sr.pos
        rw [e1, e2, e3]
        exact ⟨fun e => ⟨p1 e, t1 e⟩, fun e => ⟨p2 e, t2 e⟩⟩
      refine py_end (s := s) (arr := #[]) hh rd (by rw [← v.length]; exact (heq xs (List.mem_of_getElem? h2)).symm) zz ti p0 fun h' tk fr => ?_
      exact ⟨rfl, I.turnedL (t' := tk) (ch := cells lo (r :: rs).length) (fun d o hb q => fr d o (by
        by_cases h : @LT.lt Nat _ d lo
        · exact .inl h
        · refine .inr ?_
          by_cases h2 : @LT.lt Nat _ d (lo + (r :: rs).length + 3)
          · exact absurd (mem_cells.mpr ⟨by omega, h2⟩) hb
          · omega) q) hf'⟩
  self := fun A i s Q E st h => wpAny_pyIter_zip st.z h
/-! zip(e1, e2, e3, e4) -/
def iZip4 (K : PySem.W.Frag) (t1 t2 t3 t4 : Bool) (ta : TA) : TI := fun σ H R => ta σ H fun vs H1 => ∃ a b c d L, vs = [.ref a, .ref b, .ref c, .ref d] ∧ Paired (SqX K H1) [(t1, a), (t2, b), (t3, c), (t4, d)] L ∧ R (ItN K [(t1, a), (t2, b), (t3, c), (t4, d)]) H1
/-- the cell of an iterator that begins -/
def itO (t : Bool) (a : Addr) : Obj := if t = true then { cls := .type "tuple_iterator", data := .fields #[.ref a, .int 0 0] } else { cls := .type "list_iterator", data := .fields #[.ref a, .int 0 0] }
theorem begO (t : Bool) (a : Addr) (us : List Value) : Begins (.ref a) (itO t a) fun h => (t = true → h.IsTuple a us.toArray) ∧ (t = false → h.IsList a us.toArray) := by
  cases t with
  | true =>
    have B := begins_tuple a us.toArray
    exact ⟨fun prog w A E s Q h q => B.iter prog w A E s Q (h.1 rfl) q, fun h h' x k => ⟨fun _ => B.keeps h h' (x.1 rfl) k, fun e => nomatch e⟩, rfl⟩
  | false =>
    have B := begins_list a us.toArray
    exact ⟨fun prog w A E s Q h q => B.iter prog w A E s Q (h.2 rfl) q, fun h h' x k => ⟨(fun e => nomatch e), fun _ => B.keeps h h' (x.2 rfl) k⟩, rfl⟩
theorem itO_at {t : Bool} {a it : Addr} {h : Heap} (e : h.get? it = some (itO t a)) : (t = true → h.IsTupleIter it a 0) ∧ (t = false → h.IsListIter it a 0) := by
  cases t with
  | true => exact ⟨fun _ => ⟨_, e, rfl, rfl⟩, fun e => nomatch e⟩
  | false => exact ⟨(fun e => nomatch e), fun _ => ⟨_, e, rfl, rfl⟩⟩
theorem srcX {X : Cx} {pins : List (Addr × Obj)} {σ : L2.St} {H : Hp} {s : Shared} (I : Inv X pins σ H s) {t : Bool} {a : Addr} {xs : List V} (q : SqX X.K H (t, a) xs) : ∃ us : List Value, ((t = true → s.heap.IsTuple a us.toArray) ∧ (t = false → s.heap.IsList a us.toArray)) ∧ a < s.heap.objs.size := by
  cases t with
  | true =>
    obtain ⟨us, r, p, _⟩ := I.tuple (q.1 rfl)
    exact ⟨us, ⟨fun _ => p, fun e => nomatch e⟩, let ⟨_, e, _⟩ := p; Heap.lt_size e⟩
  | false =>
    obtain ⟨us, r, p, _⟩ := I.list (q.2 rfl)
    exact ⟨us, ⟨(fun e => nomatch e), fun _ => p.isList⟩, p.lt⟩
theorem pi_zip4 {X : Cx} {e e2 e3 e4 : Expr} {ta : TA} {p pos tpos : Pos} {elts : List Expr} {kk : Nat} {t1 t2 t3 t4 : Bool} (hg : Gl X "zip") (hm : X.mg "zip" = none) (ha : PA X [e, e2, e3, e4] ta)
    (hs : starEach [e, e2, e3, e4] X.env = (false, eval e X.env) :: starEach [e2, e3, e4] X.env := by rfl) (hpl : (backTo pos (starEach [e2, e3, e4] X.env)).any (·.1) = false := by rfl) :
    PI X (.Tuple elts kk tpos) (.Call (.Name "zip" p) [e, e2, e3, e4] [] pos) (iZip4 X.K t1 t2 t3 t4 ta) := by
  refine ⟨fun pins s σ H R I h => ?_⟩
  refine Call_ (ld_blt I hg hm PyProof.Rows.boot_zip (PyProof.Rows.callWith_type1 (thn (ha.run pos pins s σ H _ I h) ?_) hs hpl))
  rintro us s1 ⟨vs, H1, I1, r1, a, b, c, d, L, rfl, pq, q⟩
  match us, L, r1, pq with
  | _, _, .cons ra (.cons rb (.cons rc (.cons rd .nil))), .cons x1 (.cons x2 (.cons x3 (.cons x4 .nil))) =>
  cases ra
  cases rb
  cases rc
  cases rd
  obtain ⟨u1, g1, l1⟩ := srcX I1 x1
  obtain ⟨u2, g2, l2⟩ := srcX I1 x2
  obtain ⟨u3, g3, l3⟩ := srcX I1 x3
  obtain ⟨u4, g4, l4⟩ := srcX I1 x4
  refine begins4 (begO t1 a u1) (begO t2 b u2) (begO t3 c u3) (begO t4 d u4) g1 g2 g3 g4 fun h' lo elo z TI TO k1 k2 k3 k4 kp => wpAny_pyIter_zip z ?_
  have I2 : Inv X pins σ H1 { s1 with heap := h' } := I1.kept (t' := s1.toks) kp
  refine ⟨lo + 6, cells lo 4, _, _, H1, rfl, I2, turnN (lo := lo) (ss := [(t1, a), (t2, b), (t3, c), (t4, d)]) (by show 4 ≤ 99; decide) (by simp) (fun c hc => ?_), ⟨z, TI, ⟨_, TO, rfl⟩, fun j c hj => ?_⟩, fun d hdm => ?_, q⟩
  · rw [elo]
    simp only [List.mem_cons, List.not_mem_nil, or_false] at hc
    rcases hc with rfl | rfl | rfl | rfl
    · exact l1
    · exact l2
    · exact l3
    · exact l4
  · match j, hj with
    | 0, hj => cases Option.some.inj hj; exact itO_at k1
    | 1, hj => cases Option.some.inj hj; exact itO_at k2
    | 2, hj => cases Option.some.inj hj; exact itO_at k3
    | 3, hj => cases Option.some.inj hj; exact itO_at k4
  · have hle : s1.heap.objs.size ≤ d := by
      rw [← elo]
      exact (mem_cells.mp hdm).1
    exact I1.fpOk hle (I1.hok.fresh hle)
/-- a comprehension over such a zip -/
theorem lc_zipN {K : PySem.W.Frag} {ss : List Sc} {L : List (List V)} {g : TG} {tt : TT} {te : TE} {vs : List Nat} {σ : L2.St} {H1 : Hp} {D : Addr} {Qd : Hp → Prop} {n : Nat} (hl : ∀ xs ∈ L, xs.length = n) (Pv : Nat → Hp → Prop) (h0 : Pv 0 (upd H1 D (.lst [])))
    (hq : ∀ i H, Pv i H → Paired (SqX K H) ss L)
    (hs : ∀ (i : Nat) (us : List V) (T : Addr) (H : Hp), i < n → Paired (fun xs x => xs[i]? = some x) L us → Pv i H → H T = none → g (.ref T) (wipe σ vs) (upd H T (.tup us)) fun σ2 H2 => wipe σ2 vs = wipe σ vs ∧ tt σ2 H2 fun b H3 =>
      if b = true then te σ2 H3 fun y H4 => ∃ acc, H4 D = some (.lst acc) ∧ acc.length < sizeLine ∧ Pv (i + 1) (upd H4 D (.lst (acc ++ [y]))) else Pv (i + 1) H3) (hd : ∀ H, Pv n H → Qd H) :
    ∃ W : Nat → Nat → Hp → Prop, (∃ m, W 0 m (upd H1 D (.lst []))) ∧ ∀ i m H, W i m H →
      ((ItN K ss).stop i H ∧ Qd H) ∨ ((ItN K ss).go i H ∧ ∃ Nx : Hp → Prop, (∀ H', Nx H' → ∃ m', m' < m ∧ W (i + 1) m' H') ∧ ∀ x H', (ItN K ss).yld i H x H' → g x (wipe σ vs) H' fun σ2 H2 => wipe σ2 vs = wipe σ vs ∧ tt σ2 H2 fun b H3 =>
        if b = true then te σ2 H3 fun y H4 => ∃ acc, H4 D = some (.lst acc) ∧ acc.length < sizeLine ∧ Nx (upd H4 D (.lst (acc ++ [y]))) else Nx H3) := by
  refine ⟨fun i m H => m = n - i ∧ i ≤ n ∧ Pv i H, ⟨n, rfl, Nat.zero_le _, h0⟩, ?_⟩
  rintro i m H ⟨rfl, hi, p⟩
  have q := hq i H p
  by_cases hlt : i < n
  · refine .inr ⟨⟨L, q, fun xs hx => by rw [hl xs hx]; exact hlt⟩, Pv (i + 1), fun H' p' => ⟨n - (i + 1), by omega, rfl, hlt, p'⟩, ?_⟩
    rintro v H' ⟨T, us, rfl, hT, rfl, f⟩
    exact hs i us T H hlt (f L q) p hT
  · have e : i = n := by omega
    subst e
    exact .inl ⟨⟨L, q, hl⟩, hd H p⟩
end Zn

set_option Elab.async false
set_option linter.all false
set_option maxRecDepth 100000
set_option maxHeartbeats 4000000
namespace Hl
open PySem PySem.Spec PyProof.Rows L2
abbrev sDeal : Stmt := topS 16
abbrev sPick : Stmt := topS 17
abbrev sOf : Stmt := topS 18
abbrev sLike : Stmt := topS 19
theorem lg {n : Int} {b : Nat} (h : n.natAbs < 2 ^ b) (h0 : 0 < b) (h9 : b ≤ 9000) : n.natAbs.log2 < 9000 := Nat.lt_of_lt_of_le (PySem.Flt.log2_lt_of h0 h) h9
/-! what a rule does with a number -/
structure OkE (e a : Int) (m : Option Int) : Prop where
  e1 : 1 ≤ e
  e4 : e ≤ 4
  a0 : 0 ≤ a
  a2 : a ≤ 2
  mo : m = none ∨ m = some 1 ∨ m = some 2
def downF (e a : Int) (m : Option Int) (x : Int) : Int :=
  match m with
  | some k => if a + e * k < x then a + e * k else x
  | none => if x < a then x else a + (x - a) % e
def timesF (e a : Int) (m : Option Int) (x : Int) : Int :=
  match m with
  | some k => if k < (if x - a > 0 then x - a else 0) / e then k else (if x - a > 0 then x - a else 0) / e
  | none => (if x - a > 0 then x - a else 0) / e
theorem down_add {e a : Int} {m : Option Int} {x w : Int} (h : OkE e a m) (hx : 0 ≤ x) (hw : 0 ≤ w) : downF e a m (downF e a m x + w) = downF e a m (x + w) := by
  obtain ⟨e1, e4, a0, a2, mo⟩ := h
  have he : e = 1 ∨ e = 2 ∨ e = 3 ∨ e = 4 := by omega
  rcases mo with rfl | rfl | rfl <;> rcases he with rfl | rfl | rfl | rfl <;> simp only [downF] <;> omega
theorem times_add {e a : Int} {m : Option Int} {x w : Int} (h : OkE e a m) (hx : 0 ≤ x) (hw : 0 ≤ w) : timesF e a m (downF e a m x + w) - timesF e a m (downF e a m x) = timesF e a m (x + w) - timesF e a m x := by
  obtain ⟨e1, e4, a0, a2, mo⟩ := h
  have he : e = 1 ∨ e = 2 ∨ e = 3 ∨ e = 4 := by omega
  rcases mo with rfl | rfl | rfl <;> rcases he with rfl | rfl | rfl | rfl <;> simp only [downF, timesF] <;> omega
theorem down_ge {e a : Int} {m : Option Int} {x : Int} (h : OkE e a m) (hx : 0 ≤ x) : 0 ≤ downF e a m x := by
  obtain ⟨e1, e4, a0, a2, mo⟩ := h
  have he : e = 1 ∨ e = 2 ∨ e = 3 ∨ e = 4 := by omega
  rcases mo with rfl | rfl | rfl <;> rcases he with rfl | rfl | rfl | rfl <;> simp only [downF] <;> omega
theorem down_le {e a : Int} {m : Option Int} {x : Int} (h : OkE e a m) (hx : 0 ≤ x) : downF e a m x ≤ 10 := by
  obtain ⟨e1, e4, a0, a2, mo⟩ := h
  have he : e = 1 ∨ e = 2 ∨ e = 3 ∨ e = 4 := by omega
  rcases mo with rfl | rfl | rfl <;> rcases he with rfl | rfl | rfl | rfl <;> simp only [downF] <;> omega
theorem times_mono {e a : Int} {m : Option Int} {x w : Int} (h : OkE e a m) (hx : 0 ≤ x) (hw : 0 ≤ w) : 0 ≤ timesF e a m (x + w) - timesF e a m x ∧ timesF e a m (x + w) - timesF e a m x ≤ x + w := by
  obtain ⟨e1, e4, a0, a2, mo⟩ := h
  have he : e = 1 ∨ e = 2 ∨ e = 3 ∨ e = 4 := by omega
  rcases mo with rfl | rfl | rfl <;> rcases he with rfl | rfl | rfl | rfl <;> simp only [timesF] <;> omega
/-- a positive divisor below 2 ^ 9000 -/
def CDivP (_ j : Int) : Prop := 0 < j ∧ j.natAbs.log2 < 9000
theorem op_fdivP {X : Cx} : OpR X (binaryOp .FloorDiv) (rI CDivP fun i j => .int (i / j)) := opI fun i j _ _ _ _ _ hc q => by
  have h1 : (0 : Int) < j := hc.1
  exact floordiv_int (by omega) (by rw [Int.fdiv_eq_ediv_of_nonneg i (by omega)]; exact q) (.inl (PyProof.noPylong_of_log2 hc.2))
/-- what stands in a deal -/
def d5 (l : Addr) (at' z m c : Int) : HO := .lst [.ref l, .int at', .int z, .int m, .int c]
structure Deal (H : Hp) (p l : Addr) : Prop where
  ex : ∃ (ns : List Int) (a z m c : Int), H p = some (d5 l a z m c) ∧ H l = some (.lst (ns.map V.int)) ∧ l ≠ p ∧ 0 ≤ a ∧ 0 ≤ z ∧ 0 ≤ m ∧ m < 2147483587
theorem upd_upd {H : Hp} {p : Addr} {a b : HO} : upd (upd H p a) p b = upd H p b := by
  funext x
  by_cases h : x = p
  · rw [h, upd_same, upd_same]
  · rw [upd_ne h, upd_ne h, upd_ne h]
theorem same_upd {H : Hp} {p : Addr} {o : HO} (h : H p = none) : Same H (upd H p o) := fun b x e => by
  rw [upd_ne (ne_of_none e h)]
  exact e
theorem ne_of_fresh {H : Hp} {a b : Addr} {o : HO} (h : H a = some o) (n : H b = none) : b ≠ a := fun e => by
  rw [e, h] at n
  cases n
/-- no deal -/
def Nd (o : HO) : Prop := ∀ l a z m c, o ≠ d5 l a z m c
/-- all that is tracked and no deal stays, nothing is let go -/
structure Kp (H H' : Hp) : Prop where
  keep : ∀ b o, Nd o → H b = some o → H' b = some o
  free : ∀ b, H' b = none → H b = none
theorem Kp.refl (H : Hp) : Kp H H := ⟨fun _ _ _ h => h, fun _ h => h⟩
theorem Kp.trans {H H1 H2 : Hp} (a : Kp H H1) (b : Kp H1 H2) : Kp H H2 := ⟨fun x o n h => b.keep x o n (a.keep x o n h), fun x h => a.free x (b.free x h)⟩
theorem Kp.of {H H1 : Hp} (a : Same H H1) : Kp H H1 := ⟨fun x o _ h => a x o h, fun x h => a.free h⟩
theorem Deal.there {H : Hp} {p l : Addr} (d : Deal H p l) : (∃ o, H p = some o) ∧ ∃ o, H l = some o := by
  obtain ⟨ns, a, z, m, c, hp, hl, r⟩ := d
  exact ⟨⟨_, hp⟩, ⟨_, hl⟩⟩
theorem Deal.ne {H : Hp} {p l q : Addr} (d : Deal H p l) (h : H q = none) : q ≠ p := by
  obtain ⟨⟨o, e⟩, _⟩ := d.there
  exact ne_of_fresh e h
theorem Deal.nl {H : Hp} {p l q : Addr} (d : Deal H p l) (h : H q = none) : q ≠ l := by
  obtain ⟨_, ⟨o, e⟩⟩ := d.there
  exact ne_of_fresh e h
theorem Deal.other {H : Hp} {p l q : Addr} {o : HO} (d : Deal H p l) (h : H q = some o) (n : Nd o) : q ≠ p := by
  obtain ⟨ns, a, z, m, c, hp, hl, r⟩ := d
  intro e
  rw [e, hp] at h
  exact n _ _ _ _ _ (Option.some.inj h).symm
theorem Deal.same {H H' : Hp} {p l : Addr} (d : Deal H p l) (e : Same H H') : Deal H' p l := by
  obtain ⟨ns, a, z, m, c, hp, hl, r⟩ := d
  exact ⟨ns, a, z, m, c, e _ _ hp, e _ _ hl, r⟩
theorem Kp.deal {H : Hp} {p l : Addr} {o : HO} (d : Deal H p l) : Kp H (upd H p o) := ⟨fun b x n h => by rw [upd_ne (d.other h n)]; exact h, fun b h => by
  by_cases e : b = p
  · rw [e, upd_same] at h
    cases h
  · rw [upd_ne e] at h
    exact h⟩
/-- what is new may change -/
theorem Kp.put {H H' : Hp} {D : Addr} {o : HO} (k : Kp H H') (n : H D = none) : Kp H (upd H' D o) := ⟨fun b x nx h => by rw [upd_ne (ne_of_none h n)]; exact k.keep b x nx h, fun b h => by
  by_cases e : b = D
  · rw [e]
    exact n
  · rw [upd_ne e] at h
    exact k.free b h⟩
theorem Deal.put {H : Hp} {p l D : Addr} {o : HO} (d : Deal H p l) (n1 : D ≠ p) (n2 : D ≠ l) : Deal (upd H D o) p l := by
  obtain ⟨ns, a, z, m, c, hp, hl, r⟩ := d
  exact ⟨ns, a, z, m, c, by rw [upd_ne n1.symm]; exact hp, by rw [upd_ne n2.symm]; exact hl, r⟩
theorem nd_tup {xs : List V} : Nd (.tup xs) := fun _ _ _ _ _ h => by cases h
theorem nd_dK {xs : List (Key × V)} : Nd (.dK xs) := fun _ _ _ _ _ h => by cases h
theorem nd_lst {xs : List V} (h : ∀ (x : V) (r : List V), xs = x :: r → ∀ a, x ≠ .ref a) : Nd (.lst xs) := fun l a z m c e => by
  have e' := HO.lst.inj (show HO.lst xs = .lst [.ref l, .int a, .int z, .int m, .int c] from e)
  exact h _ _ e' _ rfl
theorem nd_strs {ns : List Str} : Nd (.lst (ns.map V.str)) := nd_lst fun x r e a => by
  cases ns with
  | nil => cases e
  | cons s t =>
    cases e
    intro z
    cases z
theorem nd_ints {ns : List Int} : Nd (.lst (ns.map V.int)) := nd_lst fun x r e a => by
  cases ns with
  | nil => cases e
  | cons s t =>
    cases e
    intro z
    cases z
theorem nd_bls {ns : List Bool} : Nd (.lst (ns.map V.bl)) := nd_lst fun x r e a => by
  cases ns with
  | nil => cases e
  | cons s t =>
    cases e
    intro z
    cases z
theorem nd_refs {ns : List Addr} : Nd (.lst (ns.map V.ref)) := fun l a z m c e => by
  have e' := HO.lst.inj (show HO.lst (ns.map V.ref) = .lst [.ref l, .int a, .int z, .int m, .int c] from e)
  cases ns with
  | nil => cases e'
  | cons s t =>
    cases t with
    | nil =>
      simp at e'
    | cons s2 t2 => simp at e'
theorem nd_nil : Nd (.lst []) := nd_strs (ns := [])
theorem cut63 {xs : List V} (h : xs.length ≤ 63) : cutV xs none (some 63) = xs := by
  unfold cutV
  rw [HT.sIx_none, show HT.sIx xs.length xs.length (some 63) = min 63 xs.length from HT.sIx_nat xs.length xs.length 63, Nat.min_eq_right h]
  show (List.take (xs.length - 0) xs) = xs
  rw [Nat.sub_zero, List.take_length]
section
variable {P : Program} {w : World} {K : PySem.W.Frag} {mg : Str → Option Value} {base : Heap}
/-! _law_deal -/
def spDeal (K : PySem.W.Frag) : Sp := fun vs H Q _ => ∃ (a : Addr) (ns : List Int), vs = [.ref a] ∧ SqL K H a (ns.map V.int) ∧ ns.length ≤ 63 ∧
  ∀ H' p l, Same H H' → H p = none → Deal H' p l → Q (.ref p) H'
theorem scD : FnScope ["_law_script", "_law_mixed", "_law_cell"] ["_law_script"] (defScope sDeal) := ⟨rfl, rfl, rfl, by decide +kernel, rfl, by decide +kernel, by decide +kernel⟩
theorem ok_deal {f : Addr} {fd : FuncData} {k : Nat} (F : Fun K "_law_deal" "_law_deal" sDeal f fd) (mL : mg "list" = none) : FnOk P w K mg base CX0 (k + 1) f fd ["_law_script"] (spDeal K) := by
  refine F.ok scD (fun vs H Q E h => ?_) (fun cdv A outer s H vs Q E hr h => ?_)
  · obtain ⟨a, ns, rfl, _⟩ := h
    rfl
  · obtain ⟨a, ns, rfl, hS, hlen, q⟩ := h
    refine ⟨_, pss_cons (ps_set (i := 1) scD.nd rfl (.inl rfl) pe_int)
      (pss_cons (ps_for PassesOwn.never rfl (pi_list (pe_slice sl_list (pv 0) po_none (po_some pe_int))) (pg_name (i := 2) scD.nd rfl (.inl rfl))
        (pss_one (ps_set (i := 1) scD.nd rfl (.inl rfl) (pe_op op_mod (pe_op op_add (pe_op op_add (pe_op op_mul (pv 1) pe_int) (pe_op op_mod (pv 2) pe_int)) pe_int) pe_int))))
      (pss_one (ps_ret (pe_lst (pa_cons (pe_callTy call_list_of (by rfl) mL (by decide +kernel) (pa_cons (pe_slice sl_list (pv 0) po_none (po_some pe_int)) pa_nil)) (pa_cons pe_int (pa_cons pe_int (pa_cons (pv 1) (pa_cons pe_int pa_nil))))))))), ?_⟩
    have hl63 : (ns.map V.int).length ≤ 63 := by rw [List.length_map]; exact hlen
    refine ⟨_, rfl, 63, rfl, a, ns.map V.int, rfl, hS, fun c nc => ?_⟩
    rw [cut63 hl63]
    have s1 : Same H (upd H c (.lst (ns.map V.int))) := same_upd nc
    refine ⟨c, rfl, ⟨_, SqL.of upd_same⟩, for_list (K := K) (a := c) (xs := ns.map V.int) (fun i σ H' => ∃ (m : Int) (v : Option V), σ = [some (.ref a), some (.int m), v] ∧ 0 ≤ m ∧ m < 2147483587 ∧ H' = upd H c (.lst (ns.map V.int)))
      ⟨9144, none, rfl, by decide, by decide, rfl⟩ (fun i σ H' _ ⟨_, _, _, _, _, e⟩ => by rw [e]; exact SqL.of upd_same) ?_ ?_⟩
    · rintro i y σ H' hi ⟨m, v, rfl, h0, h1, rfl⟩
      obtain ⟨z, hz, rfl⟩ : ∃ z, ns[i]? = some z ∧ y = V.int z := by
        rw [List.getElem?_map] at hi
        cases e : ns[i]? with
        | none =>
          rw [e] at hi
          cases hi
        | some z =>
          rw [e] at hi
          exact ⟨z, rfl, (Option.some.inj hi).symm⟩
      refine ⟨_, rfl, _, _, rfl, rfl, .inl ⟨by omega, by omega⟩, _, rfl, _, _, rfl, rfl, (by show (0 : Int) < 2147483629; decide), _, _, rfl, rfl, _, _, rfl, rfl, _, _, rfl, rfl, (by show (0 : Int) < 2147483587; decide), ?_⟩
      exact ⟨_, some (.int z), rfl, Int.emod_nonneg _ (by decide), Int.emod_lt_of_pos _ (by decide), rfl⟩
    · rintro σ H' ⟨m, v, rfl, h0, h1, rfl⟩
      refine ⟨_, rfl, 63, rfl, a, ns.map V.int, rfl, s1.seq hS, fun b nb => ?_⟩
      rw [cut63 hl63]
      have s2 := same_upd (o := .lst (ns.map V.int)) nb
      refine ⟨b, _, rfl, .inl (SqL.of upd_same), fun l nl => ?_⟩
      have s3 := same_upd (o := .lst (ns.map V.int)) nl
      refine ⟨_, rfl, (by show 5 ≤ sizeLine; decide), fun p np => ?_⟩
      have s4 := same_upd (o := d5 l 0 0 m 0) np
      have S3 := s1.trans (s2.trans s3)
      refine q _ p l (S3.trans s4) (S3.free np) ⟨ns, 0, 0, m, 0, upd_same, ?_, ?_, by decide, by decide, h0, h1⟩
      · exact s4 _ _ upd_same
      · exact (ne_of_fresh (o := .lst (ns.map V.int)) upd_same np).symm
end
section
variable {P : Program} {w : World} {K : PySem.W.Frag} {mg : Str → Option Value} {base : Heap}
/-! _law_pick -/
def spPick : Sp := fun vs H Q _ => ∃ (p l : Addr) (n : Int), vs = [.ref p, .int n] ∧ Deal H p l ∧ 0 < n ∧ n.natAbs.log2 < 9000 ∧
  ∀ (H' : Hp) (r : Int), Kp H H' → Deal H' p l → 0 ≤ r → r < n → Q (.int r) H'
theorem scK : FnScope ["_law_deal_here", "_law_many", "_law_cell", "_law_got", "_law_seed"] ["_law_deal_here", "_law_many"] (defScope sPick) := ⟨rfl, rfl, rfl, by decide +kernel, rfl, by decide +kernel, by decide +kernel⟩
theorem ok_pick {f : Addr} {fd : FuncData} {k : Nat} (F : Fun K "_law_pick" "_law_pick" sPick f fd) (mLen : mg "len" = none) : FnOk P w K mg base CX0 (k + 1) f fd ["_law_deal_here", "_law_many"] spPick := by
  refine F.ok scK (fun vs H Q E h => ?_) (fun cdv A outer s H vs Q E hr h => ?_)
  · obtain ⟨a, l, ns, rfl, _⟩ := h
    rfl
  · obtain ⟨p, l, n, rfl, dl0, hn, hn2, q⟩ := h
    have kd : ∀ o, Kp H (upd H p o) := fun o => Kp.deal dl0
    obtain ⟨ns, a, z, m, c, hp, hl, hlp, ha, hz, hm, hm2⟩ := dl0
    refine ⟨_, pss_cons (ps_asg (pe_op op_add (pe_ix ix_list (pv 0) pe_int (fun _ _ => rfl)) pe_int) (pg_sub (pv 0) pe_int set_list))
      (Evl.pss_cut (ps_if (PW.pt (pw_and (pt_cmpR op_eq (pe_ix ix_list (pv 0) pe_int (fun _ _ => rfl)) pe_int (nomark _)) (pw_and1 (pt_cmpR op_lt (pe_ix ix_list (pv 0) pe_int (fun _ _ => rfl)) (pe_callB call_len_seq (by rfl) mLen PySem.boot_len (pa_cons (pe_ix ix_list (pv 0) pe_int (fun _ _ => rfl)) pa_nil)) (nomark _)))))
          (pss_cons (ps_set (i := 2) scK.nd rfl (.inl rfl) (pe_ix ix_list (pe_ix ix_list (pv 0) pe_int (fun _ _ => rfl)) (pe_ix ix_list (pv 0) pe_int (fun _ _ => rfl)) (fun _ _ => rfl)))
          (pss_cons (ps_asg (pe_op op_add (pe_ix ix_list (pv 0) pe_int (fun _ _ => rfl)) pe_int) (pg_sub (pv 0) pe_int set_list))
          (pss_one (ps_if (pt_cmpR op_ge (pv 2) (pe_op op_pow pe_int pe_int) (nomark _)) (pss_one (ps_asg (pv 2) (pg_sub (pv 0) pe_int set_list)))
            (pss_one (ps_asg (pe_op op_mod (pe_op op_add (pe_op op_add (pe_op op_mul (pe_ix ix_list (pv 0) pe_int (fun _ _ => rfl)) pe_int) (pe_op op_mul (pe_op op_mod (pv 2) pe_int) pe_int)) pe_int) pe_int) (pg_sub (pv 0) pe_int set_list)))))))
          pss_nil)
      (pss_cons (ps_if (pt_cmpR op_gt (pe_ix ix_list (pv 0) pe_int (fun _ _ => rfl)) pe_int (nomark _))
          (pss_cons (ps_set (i := 3) scK.nd rfl (.inl rfl) (pe_op op_mod (pe_ix ix_list (pv 0) pe_int (fun _ _ => rfl)) (pv 1)))
          (pss_cons (ps_asg (pe_op op_fdivP (pe_ix ix_list (pv 0) pe_int (fun _ _ => rfl)) (pv 1)) (pg_sub (pv 0) pe_int set_list))
          (pss_one (ps_ret (pv 3))))) pss_nil)
      (pss_cons (ps_set (i := 4) scK.nd rfl (.inl rfl) (pe_ix ix_list (pv 0) pe_int (fun _ _ => rfl)))
      (pss_cons (ps_asg (pe_op op_mod (pe_op op_add (pe_op op_add (pe_op op_add (pe_op op_mul (pe_op op_mod (pe_op op_mul (pv 4) (pv 4)) pe_int) pe_int) (pe_op op_mul (pv 4) pe_int)) pe_int) (pe_ix ix_list (pv 0) pe_int (fun _ _ => rfl))) pe_int) (pg_sub (pv 0) pe_int set_list))
      (pss_one (ps_ret (pe_op op_mod (pe_op op_add (pe_op op_fdivP (pe_ix ix_list (pv 0) pe_int (fun _ _ => rfl)) pe_int) (pe_op op_mul (pe_op op_mod (pe_ix ix_list (pv 0) pe_int (fun _ _ => rfl)) pe_int) pe_int)) (pv 1)))))))), ?_⟩
    -- deal[4] = deal[4] + 1
    refine ⟨_, rfl, p, _, 4, _, rfl, rfl, SqL.of hp, atI_nat (j := 4) rfl, _, _, rfl, rfl, _, rfl, p, _, 4, 4, rfl, rfl, hp, by rfl, ?_⟩
    have hl1 : ∀ o, upd H p o l = some (.lst (ns.map V.int)) := fun o => by rw [upd_ne hlp]; exact hl
    have hp1 : (upd H p (d5 l a z m (c + 1))) p = some (d5 l a z m (c + 1)) := upd_same
    -- the ways meet
    refine ⟨fun σ' H' => ∃ (v : Option V) (a z m : Int), σ' = [some (.ref p), some (.int n), v, none, none] ∧ H' = upd H p (d5 l a z m (c + 1)) ∧ 0 ≤ a ∧ 0 ≤ z ∧ 0 ≤ m ∧ m < 2147483587, ?_, ?_⟩
    · refine ⟨_, rfl, p, _, 2, _, rfl, rfl, SqL.of hp1, atI_nat (j := 2) rfl, rfl, _, rfl, ite2 (fun e => ?_) (fun e => ?_)⟩
      · refine ⟨_, rfl, p, _, 1, _, rfl, rfl, SqL.of hp1, atI_nat (j := 1) rfl, _, rfl, p, _, 0, _, rfl, rfl, SqL.of hp1, atI_nat (j := 0) rfl, l, _, rfl, .inl (SqL.of (hl1 _)), _, _, rfl, rfl, _, rfl, ite2 (fun e2 => ?_) (fun e2 => ?_)⟩
        · have hlt : a < ((ns.map V.int).length : Int) := of_decide_eq_true e2
          obtain ⟨j, rfl⟩ := Int.eq_ofNat_of_zero_le ha
          have hj : j < ns.length := by
            rw [List.length_map] at hlt
            omega
          have gj : (ns.map V.int)[j]? = some (.int ns[j]) := by
            rw [List.getElem?_map, List.getElem?_eq_getElem hj]
            rfl
          refine ⟨_, rfl, p, _, 0, _, rfl, rfl, SqL.of hp1, atI_nat (j := 0) rfl, _, rfl, p, _, 1, _, rfl, rfl, SqL.of hp1, atI_nat (j := 1) rfl, l, _, _, _, rfl, rfl, SqL.of (hl1 _), atI_nat (j := j) gj, ?_⟩
          refine ⟨_, rfl, p, _, 1, _, rfl, rfl, SqL.of hp1, atI_nat (j := 1) rfl, _, _, rfl, rfl, _, rfl, p, _, 1, 1, rfl, rfl, hp1, by rfl, ?_⟩
          have hp2 : (upd (upd H p (d5 l j z m (c + 1))) p (d5 l (j + 1) z m (c + 1))) p = some (d5 l (j + 1) z m (c + 1)) := upd_same
          refine ⟨_, rfl, _, _, rfl, rfl, ⟨by decide, by decide, by decide⟩, _, _, rfl, rfl, _, rfl, ite2 (fun e3 => ?_) (fun e3 => ?_)⟩
          · have h18 : (1000000000000000000 : Int) ≤ ns[j] := of_decide_eq_true e3
            refine ⟨_, rfl, _, rfl, p, _, 2, 2, rfl, rfl, hp2, by rfl, ?_⟩
            exact ⟨_, _, _, _, rfl, by rw [upd_upd, upd_upd]; rfl, by omega, by omega, hm, hm2⟩
          · refine ⟨_, rfl, p, _, 3, _, rfl, rfl, SqL.of hp2, atI_nat (j := 3) rfl, _, _, rfl, rfl, .inl ⟨by omega, by omega⟩, _, rfl, _, _, rfl, rfl, (by show (0 : Int) < 2147483629; decide), _, _, rfl, rfl, .inr ⟨by decide, by decide⟩, _, _, rfl, rfl, _, _, rfl, rfl, _, _, rfl, rfl, (by show (0 : Int) < 2147483587; decide), _, rfl, p, _, 3, 3, rfl, rfl, hp2, by rfl, ?_⟩
            exact ⟨_, _, _, _, rfl, by rw [upd_upd, upd_upd]; rfl, by omega, hz, Int.emod_nonneg _ (by decide), Int.emod_lt_of_pos _ (by decide)⟩
        · exact ⟨_, _, _, _, rfl, rfl, ha, hz, hm, hm2⟩
      · exact iteF ⟨_, _, _, _, rfl, rfl, ha, hz, hm, hm2⟩
    · rintro σ' H' ⟨v, a, z, m, rfl, rfl, ha, hz, hm, hm2⟩
      have hp1 : (upd H p (d5 l a z m (c + 1))) p = some (d5 l a z m (c + 1)) := upd_same
      have dl : ∀ (z m : Int), 0 ≤ z → 0 ≤ m → m < 2147483587 → Deal (upd H p (d5 l a z m (c + 1))) p l := fun z m h1 h2 h3 => ⟨ns, a, z, m, c + 1, upd_same, hl1 _, hlp, ha, h1, h2, h3⟩
      refine ⟨_, rfl, p, _, 2, _, rfl, rfl, SqL.of hp1, atI_nat (j := 2) rfl, _, _, rfl, rfl, _, rfl, ite2 (fun e => ?_) (fun e => ?_)⟩
      · refine ⟨_, rfl, p, _, 2, _, rfl, rfl, SqL.of hp1, atI_nat (j := 2) rfl, _, rfl, _, _, rfl, rfl, hn, ?_⟩
        refine ⟨_, rfl, p, _, 2, _, rfl, rfl, SqL.of hp1, atI_nat (j := 2) rfl, _, rfl, _, _, rfl, rfl, ⟨hn, hn2⟩, _, rfl, p, _, 2, 2, rfl, rfl, hp1, by rfl, ?_⟩
        refine ⟨_, rfl, ?_⟩
        rw [upd_upd]
        exact q _ _ (kd _) (dl _ _ (Int.ediv_nonneg hz (Int.le_of_lt hn)) hm hm2) (Int.emod_nonneg _ (by omega)) (Int.emod_lt_of_pos _ hn)
      · refine ⟨_, rfl, p, _, 3, _, rfl, rfl, SqL.of hp1, atI_nat (j := 3) rfl, ?_⟩
        refine ⟨_, rfl, _, rfl, _, _, rfl, rfl, .inl ⟨by omega, by omega⟩, _, _, rfl, rfl, (by show (0 : Int) < 2147483563; decide), _, _, rfl, rfl, .inr ⟨by decide, by decide⟩, _, rfl, _, _, rfl, rfl, .inr ⟨by decide, by decide⟩, _, _, rfl, rfl, _, _, rfl, rfl, _, rfl, p, _, 4, _, rfl, rfl, SqL.of hp1, atI_nat (j := 4) rfl, _, _, rfl, rfl, _, _, rfl, rfl, (by show (0 : Int) < 2147483587; decide), _, rfl, p, _, 3, 3, rfl, rfl, hp1, by rfl, ?_⟩
        refine ⟨_, rfl, p, _, 3, _, rfl, rfl, SqL.of upd_same, atI_nat (j := 3) rfl, _, _, rfl, rfl, ⟨by decide, by decide⟩, _, rfl, p, _, 3, _, rfl, rfl, SqL.of upd_same, atI_nat (j := 3) rfl, _, _, rfl, rfl, (by show (0 : Int) < 7919; decide), _, _, rfl, rfl, .inr ⟨by decide, by decide⟩, _, _, rfl, rfl, _, rfl, _, _, rfl, rfl, hn, ?_⟩
        rw [upd_upd]
        exact q _ _ (kd _) (dl _ _ hz (Int.emod_nonneg _ (by decide)) (Int.emod_lt_of_pos _ (by decide))) (Int.emod_nonneg _ (by omega)) (Int.emod_lt_of_pos _ hn)
end
theorem iT {c : Bool} {A B : Prop} (hc : c = true) (h : A) : if c = true then A else B := by
  rw [if_pos hc]
  exact h
theorem iF {c : Bool} {A B : Prop} (hc : c = false) (h : B) : if c = true then A else B := by
  rw [hc, if_neg Bool.false_ne_true]
  exact h
section
variable {K : PySem.W.Frag} {H H' : Hp}
theorem same_t {a : Addr} {xs : List V} (e : Same H H') (h : SqT K H a xs) : SqT K H' a xs := by
  rcases h with (h | ⟨o, h⟩) | h
  · exact .inl (.inl (e _ _ h))
  · exact .inl (.inr ⟨o, e _ _ h⟩)
  · exact .inr h
theorem tyL {a : Addr} {xs : List V} (h : SqL K H a xs) : TyX K H (.ref a) (.type "list") := by
  rcases h with (h | ⟨o, h⟩) | ⟨o, its, n, h1, h2, _⟩
  · exact .base (.lst h)
  · exact .base (.frz h)
  · exact .kList h1 h2
theorem tyT {a : Addr} {xs : List V} (h : SqT K H a xs) : TyX K H (.ref a) (.type "tuple") := by
  rcases h with (h | ⟨o, h⟩) | ⟨o, its, n, h1, h2, _⟩
  · exact .base (.tup h)
  · exact .fTuple h
  · exact .kTuple h1 h2
theorem kA_list : PySem.W.kitAny K (.type "list") [.type "list", .type "tuple"] = some true := kitAny_cons (b := true) (kit_ty (by decide +kernel)) (fun z => by cases z) (fun _ => rfl)
theorem kA_tuple : PySem.W.kitAny K (.type "tuple") [.type "list", .type "tuple"] = some true :=
  kitAny_cons (b := false) (kit_ty (by decide +kernel)) (fun _ => kitAny_cons (b := true) (kit_ty (by decide +kernel)) (fun z => by cases z) (fun _ => rfl)) (fun z => by cases z)
theorem kA_no {t : String} (h1 : kitB t "list" = some false) (h2 : kitB t "tuple" = some false) : PySem.W.kitAny K (.type t) [.type "list", .type "tuple"] = some false :=
  kitAny_cons (b := false) (kit_ty h1) (fun _ => kitAny_cons (b := false) (kit_ty h2) (fun _ => kitAny_nil) (fun z => by cases z)) (fun z => by cases z)
theorem pCls : Paired ClsV [.ty "list", .ty "tuple"] [.type "list", .type "tuple"] := .cons (.ty _) (.cons (.ty _) .nil)
/-- two values that read as the same data, at most n deep -/
inductive Lk (K : PySem.W.Frag) (H : Hp) : Nat → V → V → Prop
  | non {n : Nat} : Lk K H n .non .non
  | bl {n : Nat} (b : Bool) : Lk K H n (.bl b) (.bl b)
  | int {n : Nat} (i : Int) : Lk K H n (.int i) (.int i)
  | str {n : Nat} (s : Str) : Lk K H n (.str s) (.str s)
  | lst {n : Nat} {a b : Addr} {xs ys : List V} (ha : SqL K H a xs) (hb : SqL K H b ys) (hl : xs.length = ys.length) (h1 : ys.length ≤ 1000) (hi : ∀ (i : Nat) (x y : V), xs[i]? = some x → ys[i]? = some y → Lk K H n x y) : Lk K H (n + 1) (.ref a) (.ref b)
  | tup {n : Nat} {a b : Addr} {xs ys : List V} (ha : SqT K H a xs) (hb : SqT K H b ys) (hl : xs.length = ys.length) (h1 : ys.length ≤ 1000) (hi : ∀ (i : Nat) (x y : V), xs[i]? = some x → ys[i]? = some y → Lk K H n x y) : Lk K H (n + 1) (.ref a) (.ref b)
theorem Lk.mono {n : Nat} {x y : V} (e : Same H H') (h : Lk K H n x y) : Lk K H' n x y := by
  induction h with
  | non => exact .non
  | bl b => exact .bl b
  | int b => exact .int b
  | str b => exact .str b
  | lst ha hb hl h1 hi ih => exact .lst (e.seq ha) (e.seq hb) hl h1 ih
  | tup ha hb hl h1 hi ih => exact .tup (same_t e ha) (same_t e hb) hl h1 ih
end
section
variable {P : Program} {w : World} {K : PySem.W.Frag} {mg : Str → Option Value} {base : Heap}
def spLike (K : PySem.W.Frag) : Nat → Sp
  | 0 => fun _ _ _ _ => False
  | n + 1 => fun vs H Q _ => ∃ x y : V, vs = [x, y] ∧ Lk K H n x y ∧ ∀ H', Same H H' → Q (.bl true) H'
theorem scL : FnScope ["_law_found", "_law_due", "_law_k"] ["_law_found", "_law_due"] (defScope sLike) := ⟨rfl, rfl, rfl, by decide +kernel, rfl, by decide +kernel, by decide +kernel⟩
/-- the built-ins that the law's own defs ask for by name -/
structure Bi (mg : Str → Option Value) : Prop where
  isi : mg "isinstance" = none
  lst : mg "list" = none
  tup : mg "tuple" = none
  len : mg "len" = none
  all : mg "all" = none
  rng : mg "range" = none
  boo : mg "bool" = none
  int : mg "int" = none
  str : mg "str" = none
  abs : mg "abs" = none
theorem ok_like {f : Addr} {fd : FuncData} (F : Fun K "_law_like" "_law_like" sLike f fd) (bL : Binds K fd ["_law_found", "_law_due"] []) (gL : mg "_law_like" = some (.ref f)) (B : Bi mg) : ∀ n : Nat, FnOk P w K mg base CX0 (n + 1) f fd ["_law_found", "_law_due"] (spLike K n)
  | 0 => F.ok scL (fun vs H Q E h => h.elim) (fun cdv A outer s H vs Q E hr h => h.elim)
  | n + 1 => by
    have GL : FnOk P w K mg base CX0 (n + 1) f fd ["_law_found", "_law_due"] (spLike K n) := ok_like F bL gL B n
    refine F.ok scL (fun vs H Q E h => ?_) (fun cdv A outer s H vs Q E hr h => ?_)
    · obtain ⟨a, ns, rfl, _⟩ := h
      rfl
    · obtain ⟨x, y, rfl, hk, q⟩ := h
      refine ⟨_, pss_cons (ps_if (pt_val (pe_callB call_isiT (by rfl) B.isi (by decide +kernel) (pa_cons (pv 1) (pa_cons (pe_tup (pa_cons (pe_bltn (v := .ty "list") (by rfl) B.lst (by decide +kernel) rfl) (pa_cons (pe_bltn (v := .ty "tuple") (by rfl) B.tup (by decide +kernel) rfl) pa_nil))) pa_nil))))
          (pss_cons (ps_if (PW.pt (pw_or
                (pt_cmpR op_ne (pe_callB call_isi (by rfl) B.isi (by decide +kernel) (pa_cons (pv 0) (pa_cons (pe_bltn (v := .ty "list") (by rfl) B.lst (by decide +kernel) rfl) pa_nil))) (pe_callB call_isi (by rfl) B.isi (by decide +kernel) (pa_cons (pv 1) (pa_cons (pe_bltn (v := .ty "list") (by rfl) B.lst (by decide +kernel) rfl) pa_nil))) (nomark _))
                (pw_or1 (pt_cmpR op_ne (pe_callB call_isi (by rfl) B.isi (by decide +kernel) (pa_cons (pv 0) (pa_cons (pe_bltn (v := .ty "tuple") (by rfl) B.tup (by decide +kernel) rfl) pa_nil))) (pe_callB call_isi (by rfl) B.isi (by decide +kernel) (pa_cons (pv 1) (pa_cons (pe_bltn (v := .ty "tuple") (by rfl) B.tup (by decide +kernel) rfl) pa_nil))) (nomark _)))))
              (pss_one (ps_ret pe_bl)) pss_nil)
          (pss_one (ps_ret (pe_and (pe_cmpR op_eq (pe_callB call_len_seq (by rfl) B.len PySem.boot_len (pa_cons (pv 0) pa_nil)) (pe_callB call_len_seq (by rfl) B.len PySem.boot_len (pa_cons (pv 1) pa_nil)) (nomark _))
            (pe_one (pe_callB (cr_all rfl) (by rfl) B.all (by decide +kernel) (pa_cons
              (pe_lc (own := [("_law_k", 2)]) (g := gName 2) (tt := tYes) rfl scL.nd (pi_range1 (by rfl) B.rng (pa_cons (pe_callB call_len_seq (by rfl) B.len PySem.boot_len (pa_cons (pv 1) pa_nil)) pa_nil))
                (blkOk_by (own := [("_law_k", 2)]) (N := ["_law_found", "_law_due", "_law_k"]) (sc := defScope sLike) (by decide +kernel))
                (fun _ _ _ _ _ => pg_name (i := 2) scL.nd rfl (Or.inl rfl)) (fun _ _ _ _ _ => pts_nil)
                (fun _ _ _ _ _ => pe_call GL hr (by rfl) gL F.kp bL .nil pass0 (pa_cons (pe_ix (r := rIx K) ix_seq (pv 0) (pv 2) (fun _ _ => rfl)) (pa_cons (pe_ix (r := rIx K) ix_seq (pv 1) (pv 2) (fun _ _ => rfl)) pa_nil))))
              pa_nil))))))) pss_nil)
        (pss_cons (ps_if (PW.pt (pw_or (pt_cmpR op_isN (pv 1) pe_non (nomark _)) (pw_or1 (pt_cmpR op_isN (pv 0) pe_non (nomark _)))))
          (pss_one (ps_ret (pe_and (pe_cmpR op_isN (pv 1) pe_non (nomark _)) (pe_one (pe_cmpR op_isN (pv 0) pe_non (nomark _)))))) pss_nil)
        (pss_cons (ps_if (PW.pt (pw_or
                (pt_cmpR op_ne (pe_callB call_isi (by rfl) B.isi (by decide +kernel) (pa_cons (pv 0) (pa_cons (pe_bltn (v := .ty "bool") (by rfl) B.boo (by decide +kernel) rfl) pa_nil))) (pe_callB call_isi (by rfl) B.isi (by decide +kernel) (pa_cons (pv 1) (pa_cons (pe_bltn (v := .ty "bool") (by rfl) B.boo (by decide +kernel) rfl) pa_nil))) (nomark _))
                (pw_or1 (pt_cmpR op_ne (pe_callB call_isi (by rfl) B.isi (by decide +kernel) (pa_cons (pv 0) (pa_cons (pe_bltn (v := .ty "int") (by rfl) B.int (by decide +kernel) rfl) pa_nil))) (pe_callB call_isi (by rfl) B.isi (by decide +kernel) (pa_cons (pv 1) (pa_cons (pe_bltn (v := .ty "int") (by rfl) B.int (by decide +kernel) rfl) pa_nil))) (nomark _)))))
              (pss_one (ps_ret pe_bl)) pss_nil)
        (pss_one (ps_ret (pe_and (pe_cmpR op_eq (pe_callB call_isi (by rfl) B.isi (by decide +kernel) (pa_cons (pv 0) (pa_cons (pe_bltn (v := .ty "str") (by rfl) B.str (by decide +kernel) rfl) pa_nil))) (pe_callB call_isi (by rfl) B.isi (by decide +kernel) (pa_cons (pv 1) (pa_cons (pe_bltn (v := .ty "str") (by rfl) B.str (by decide +kernel) rfl) pa_nil))) (nomark _))
          (pe_one (pe_cmpR op_eq (pv 0) (pv 1) (nomark _)))))))), ?_⟩
      cases hk with
      | non =>
        refine ⟨_, rfl, (by show 2 ≤ sizeLine; decide), fun T hT => ⟨_, T, _, _, _, _, rfl, upd_same, pCls, .base .non, kA_no (by decide +kernel) (by decide +kernel), _, rfl, iteF ?_⟩⟩
        refine ⟨_, rfl, rfl, _, rfl, iT (decide_eq_true rfl) (iteT ?_)⟩
        refine ⟨_, rfl, rfl, _, rfl, iT (decide_eq_true rfl) ⟨_, rfl, rfl, ?_⟩⟩
        rw [decide_eq_true rfl]
        exact q _ (same_upd hT)
      | bl b =>
        refine ⟨_, rfl, (by show 2 ≤ sizeLine; decide), fun T hT => ⟨_, T, _, _, _, _, rfl, upd_same, pCls, .base (.bl b), kA_no (by decide +kernel) (by decide +kernel), _, rfl, iteF ?_⟩⟩
        refine ⟨_, rfl, rfl, _, rfl, iF rfl ⟨_, rfl, rfl, _, rfl, iteF ?_⟩⟩
        refine ⟨_, rfl, _, _, _, _, true, rfl, .ty _, .base (.bl b), kit_ty (by decide +kernel), _, rfl, _, _, _, _, true, rfl, .ty _, .base (.bl b), kit_ty (by decide +kernel), rfl, _, rfl, iF (by decide) ?_⟩
        refine ⟨_, rfl, _, _, _, _, true, rfl, .ty _, .base (.bl b), kit_ty (by decide +kernel), _, rfl, _, _, _, _, true, rfl, .ty _, .base (.bl b), kit_ty (by decide +kernel), rfl, _, rfl, iF (by decide) ?_⟩
        refine ⟨_, rfl, _, _, _, _, false, rfl, .ty _, .base (.bl b), kit_ty (by decide +kernel), _, rfl, _, _, _, _, false, rfl, .ty _, .base (.bl b), kit_ty (by decide +kernel), rfl, _, rfl, iT (by decide) ⟨_, rfl, _, rfl, rfl, ?_⟩⟩
        rw [decide_eq_true rfl]
        exact q _ (same_upd hT)
      | int b =>
        refine ⟨_, rfl, (by show 2 ≤ sizeLine; decide), fun T hT => ⟨_, T, _, _, _, _, rfl, upd_same, pCls, .base (.int b), kA_no (by decide +kernel) (by decide +kernel), _, rfl, iteF ?_⟩⟩
        refine ⟨_, rfl, rfl, _, rfl, iF rfl ⟨_, rfl, rfl, _, rfl, iteF ?_⟩⟩
        refine ⟨_, rfl, _, _, _, _, false, rfl, .ty _, .base (.int b), kit_ty (by decide +kernel), _, rfl, _, _, _, _, false, rfl, .ty _, .base (.int b), kit_ty (by decide +kernel), rfl, _, rfl, iF (by decide) ?_⟩
        refine ⟨_, rfl, _, _, _, _, true, rfl, .ty _, .base (.int b), kit_ty (by decide +kernel), _, rfl, _, _, _, _, true, rfl, .ty _, .base (.int b), kit_ty (by decide +kernel), rfl, _, rfl, iF (by decide) ?_⟩
        refine ⟨_, rfl, _, _, _, _, false, rfl, .ty _, .base (.int b), kit_ty (by decide +kernel), _, rfl, _, _, _, _, false, rfl, .ty _, .base (.int b), kit_ty (by decide +kernel), rfl, _, rfl, iT (by decide) ⟨_, rfl, _, rfl, rfl, ?_⟩⟩
        rw [decide_eq_true rfl]
        exact q _ (same_upd hT)
      | str b =>
        refine ⟨_, rfl, (by show 2 ≤ sizeLine; decide), fun T hT => ⟨_, T, _, _, _, _, rfl, upd_same, pCls, .base (.str b), kA_no (by decide +kernel) (by decide +kernel), _, rfl, iteF ?_⟩⟩
        refine ⟨_, rfl, rfl, _, rfl, iF rfl ⟨_, rfl, rfl, _, rfl, iteF ?_⟩⟩
        refine ⟨_, rfl, _, _, _, _, false, rfl, .ty _, .base (.str b), kit_ty (by decide +kernel), _, rfl, _, _, _, _, false, rfl, .ty _, .base (.str b), kit_ty (by decide +kernel), rfl, _, rfl, iF (by decide) ?_⟩
        refine ⟨_, rfl, _, _, _, _, false, rfl, .ty _, .base (.str b), kit_ty (by decide +kernel), _, rfl, _, _, _, _, false, rfl, .ty _, .base (.str b), kit_ty (by decide +kernel), rfl, _, rfl, iF (by decide) ?_⟩
        refine ⟨_, rfl, _, _, _, _, true, rfl, .ty _, .base (.str b), kit_ty (by decide +kernel), _, rfl, _, _, _, _, true, rfl, .ty _, .base (.str b), kit_ty (by decide +kernel), rfl, _, rfl, iT (by decide) ⟨_, rfl, _, rfl, rfl, ?_⟩⟩
        rw [decide_eq_true rfl]
        exact q _ (same_upd hT)
      | lst ha hb hl h1 hi =>
        rename_i n a b xs ys
        refine ⟨_, rfl, (by show 2 ≤ sizeLine; decide), fun T hT => ?_⟩
        have s1 := same_upd (o := .tup [V.ty "list", V.ty "tuple"]) hT
        have hA := Same.seq s1 ha
        have hB := Same.seq s1 hb
        refine ⟨_, T, _, _, _, _, rfl, upd_same, pCls, tyL hB, kA_list, _, rfl, iteT ?_⟩
        refine ⟨_, rfl, _, _, _, _, true, rfl, .ty _, tyL hA, kit_ty (by decide +kernel), _, rfl, _, _, _, _, true, rfl, .ty _, tyL hB, kit_ty (by decide +kernel), rfl, _, rfl, iF (by decide) ?_⟩
        refine ⟨_, rfl, _, _, _, _, false, rfl, .ty _, tyL hA, kit_ty (by decide +kernel), _, rfl, _, _, _, _, false, rfl, .ty _, tyL hB, kit_ty (by decide +kernel), rfl, _, rfl, iF (by decide) ?_⟩
        refine ⟨_, rfl, a, xs, rfl, .inl hA, _, rfl, b, ys, rfl, .inl hB, rfl, _, rfl, iT (by rw [hl]; exact decide_eq_true rfl) ?_⟩
        refine ⟨_, rfl, b, ys, rfl, .inl hB, (ys.length : Int), rfl, by omega, by omega, fun D hD => ?_⟩
        refine lc_range (lo := 0) (n := ys.length) (fun i H' => Same H H' ∧ H' D = some (.lst (List.replicate i (.bl true)))) ?_ ?_ ?_
        · have s2 := same_upd (o := .lst []) hD
          exact ⟨s1.trans s2, upd_same⟩
        · rintro i H3 hlt ⟨s3, hD3⟩
          have hA3 := Same.seq s3 ha
          have hB3 := Same.seq s3 hb
          have hlt2 : i < xs.length := by omega
          have g1 : xs[i]? = some xs[i] := List.getElem?_eq_getElem hlt2
          have g2 : ys[i]? = some ys[i] := List.getElem?_eq_getElem hlt
          refine ⟨rfl, ?_⟩
          refine ⟨_, rfl, _, rfl, .inl ⟨a, xs, _, _, rfl, rfl, hA3, at_of (j := i) (by omega) g1, _, rfl, _, rfl, .inl ⟨b, ys, _, _, rfl, rfl, hB3, at_of (j := i) (by omega) g2, _, _, rfl, (hi i _ _ g1 g2).mono s3, fun H4 s4 => ?_⟩⟩⟩
          refine ⟨_, s4 _ _ hD3, ?_, ?_⟩
          · rw [List.length_replicate]
            exact small1000 (by omega)
          · have nD : H D = none := s1.free hD
            refine ⟨fun b' o' e => ?_, ?_⟩
            · rw [upd_ne (ne_of_none e nD)]
              exact s4 _ _ (s3 _ _ e)
            · rw [upd_same, List.replicate_succ']
        · rintro H3 ⟨s3, hD3⟩
          refine ⟨D, List.replicate ys.length true, rfl, SqL.of (by rw [hD3, List.map_replicate]), ?_⟩
          rw [show (List.replicate ys.length true).all id = true by simp]
          exact q _ s3
      | tup ha hb hl h1 hi =>
        rename_i n a b xs ys
        refine ⟨_, rfl, (by show 2 ≤ sizeLine; decide), fun T hT => ?_⟩
        have s1 := same_upd (o := .tup [V.ty "list", V.ty "tuple"]) hT
        have hA := same_t s1 ha
        have hB := same_t s1 hb
        refine ⟨_, T, _, _, _, _, rfl, upd_same, pCls, tyT hB, kA_tuple, _, rfl, iteT ?_⟩
        refine ⟨_, rfl, _, _, _, _, false, rfl, .ty _, tyT hA, kit_ty (by decide +kernel), _, rfl, _, _, _, _, false, rfl, .ty _, tyT hB, kit_ty (by decide +kernel), rfl, _, rfl, iF (by decide) ?_⟩
        refine ⟨_, rfl, _, _, _, _, true, rfl, .ty _, tyT hA, kit_ty (by decide +kernel), _, rfl, _, _, _, _, true, rfl, .ty _, tyT hB, kit_ty (by decide +kernel), rfl, _, rfl, iF (by decide) ?_⟩
        refine ⟨_, rfl, a, xs, rfl, .inr hA, _, rfl, b, ys, rfl, .inr hB, rfl, _, rfl, iT (by rw [hl]; exact decide_eq_true rfl) ?_⟩
        refine ⟨_, rfl, b, ys, rfl, .inr hB, (ys.length : Int), rfl, by omega, by omega, fun D hD => ?_⟩
        refine lc_range (lo := 0) (n := ys.length) (fun i H' => Same H H' ∧ H' D = some (.lst (List.replicate i (.bl true)))) ?_ ?_ ?_
        · have s2 := same_upd (o := .lst []) hD
          exact ⟨s1.trans s2, upd_same⟩
        · rintro i H3 hlt ⟨s3, hD3⟩
          have hA3 := same_t s3 ha
          have hB3 := same_t s3 hb
          have hlt2 : i < xs.length := by omega
          have g1 : xs[i]? = some xs[i] := List.getElem?_eq_getElem hlt2
          have g2 : ys[i]? = some ys[i] := List.getElem?_eq_getElem hlt
          refine ⟨rfl, ?_⟩
          refine ⟨_, rfl, _, rfl, .inr <| .inl ⟨a, xs, _, _, rfl, rfl, hA3, at_of (j := i) (by omega) g1, _, rfl, _, rfl, .inr <| .inl ⟨b, ys, _, _, rfl, rfl, hB3, at_of (j := i) (by omega) g2, _, _, rfl, (hi i _ _ g1 g2).mono s3, fun H4 s4 => ?_⟩⟩⟩
          refine ⟨_, s4 _ _ hD3, ?_, ?_⟩
          · rw [List.length_replicate]
            exact small1000 (by omega)
          · have nD : H D = none := s1.free hD
            refine ⟨fun b' o' e => ?_, ?_⟩
            · rw [upd_ne (ne_of_none e nD)]
              exact s4 _ _ (s3 _ _ e)
            · rw [upd_same, List.replicate_succ']
        · rintro H3 ⟨s3, hD3⟩
          refine ⟨D, List.replicate ys.length true, rfl, SqL.of (by rw [hD3, List.map_replicate]), ?_⟩
          rw [show (List.replicate ys.length true).all id = true by simp]
          exact q _ s3
end
section
variable {P : Program} {w : World} {K : PySem.W.Frag} {mg : Str → Option Value} {base : Heap}
/-! _law_of -/
def spOf : Sp := fun vs H Q _ => ∃ (p l a : Addr) (xs : List V), vs = [.ref p, .ref a] ∧ Deal H p l ∧ H a = some (.lst xs) ∧ Nd (.lst xs) ∧ 0 < xs.length ∧ xs.length ≤ 1000 ∧
  ∀ (H' : Hp) (x : V), x ∈ xs → Kp H H' → Deal H' p l → Q x H'
theorem scO : FnScope ["_law_deal_here", "_law_some"] ["_law_deal_here", "_law_some"] (defScope sOf) := ⟨rfl, rfl, rfl, by decide +kernel, rfl, by decide +kernel, by decide +kernel⟩
theorem ok_of {f fK : Addr} {fd fdK : FuncData} {k : Nat} (F : Fun K "_law_of" "_law_of" sOf f fd) (FK : Fun K "_law_pick" "_law_pick" sPick fK fdK) (bK : Binds K fdK ["_law_deal_here", "_law_many"] []) (gK : mg "_law_pick" = some (.ref fK)) (B : Bi mg) :
    FnOk P w K mg base CX0 (k + 2) f fd ["_law_deal_here", "_law_some"] spOf := by
  have GK : FnOk P w K mg base CX0 (k + 1) fK fdK ["_law_deal_here", "_law_many"] spPick := ok_pick FK B.len
  refine F.ok scO (fun vs H Q E h => ?_) (fun cdv A outer s H vs Q E hr h => ?_)
  · obtain ⟨a, l, ns, xs, rfl, _⟩ := h
    rfl
  · obtain ⟨p, l, a, xs, rfl, dl, hS, nd, h0, h1, q⟩ := h
    refine ⟨_, pss_one (ps_ret (pe_ix ix_list (pv 1) (pe_call GK hr (by rfl) gK FK.kp bK .nil pass0 (pa_cons (pv 0) (pa_cons (pe_callB call_len_seq (by rfl) B.len PySem.boot_len (pa_cons (pv 1) pa_nil)) pa_nil))) (fun _ _ => rfl))), ?_⟩
    refine ⟨_, rfl, _, rfl, _, rfl, a, xs, rfl, .inl (SqL.of hS), p, l, (xs.length : Int), rfl, dl, by omega, lg (b := 10) (by omega) (by decide) (by decide), fun H' r kp dl' r0 r1 => ?_⟩
    obtain ⟨j, rfl⟩ := Int.eq_ofNat_of_zero_le r0
    have hj : j < xs.length := by omega
    refine ⟨a, xs, _, _, rfl, rfl, SqL.of (kp.keep _ _ nd hS), atI_nat (j := j) (List.getElem?_eq_getElem hj), ?_⟩
    exact q H' _ (List.getElem_mem hj) kp dl'
end
section
variable {K : PySem.W.Frag} {H H' : Hp}
theorem pr_get {R : V → V → Prop} {xs ys : List V} (h : Paired R xs ys) : ∀ (i : Nat) (x y : V), xs[i]? = some x → ys[i]? = some y → R x y := by
  induction h with
  | nil =>
    intro i x y h
    cases h
  | cons a r ih =>
    intro i x y h1 h2
    cases i with
    | zero =>
      cases Option.some.inj h1
      cases Option.some.inj h2
      exact a
    | succ j => exact ih j x y h1 h2
theorem lk_list {n : Nat} {a b : Addr} {xs ys : List V} (ha : SqL K H a xs) (hb : SqL K H b ys) (h : Paired (Lk K H n) xs ys) (hl : ys.length ≤ 1000) : Lk K H (n + 1) (.ref a) (.ref b) := .lst ha hb h.length hl (pr_get h)
theorem lk_tup {n : Nat} {a b : Addr} {xs ys : List V} (ha : SqT K H a xs) (hb : SqT K H b ys) (h : Paired (Lk K H n) xs ys) (hl : ys.length ≤ 1000) : Lk K H (n + 1) (.ref a) (.ref b) := .tup ha hb h.length hl (pr_get h)
theorem lk_ints {n : Nat} : ∀ ns : List Int, Paired (Lk K H n) (ns.map V.int) (ns.map V.int)
  | [] => .nil
  | i :: r => .cons (.int i) (lk_ints r)
end
end Hl

set_option Elab.async false
set_option linter.all false
set_option maxRecDepth 100000
set_option maxHeartbeats 4000000
namespace Hl
open PySem PySem.Spec PyProof.Rows L2
/-! xs[i] op= e: the read, i 0 or more -/
def rIxP (K : PySem.W.Frag) : R2 := fun x y H Q => ∃ (p : Addr) (xs : List V) (i : Nat) (z : V), x = .ref p ∧ y = .int i ∧ SqL K H p xs ∧ xs[i]? = some z ∧ Q z H
theorem get_list {X : Cx} : PGet X (rIxP X.K) := by
  intro pins s σ H x y v u Q I rx ry h
  obtain ⟨p, xs, i, z, rfl, rfl, hq, he, q⟩ := h
  cases (show v = Value.ref p from rx)
  obtain ⟨t, rfl⟩ := (show ∃ t, u = Value.int i t from ry)
  obtain ⟨its, r, pl, hz⟩ := I.list hq
  obtain ⟨w, ew, rw'⟩ := r.get he
  have hl := r.length
  have hn := line63
  have hi : i < its.length := (List.getElem?_eq_some_iff.mp ew).1
  exact wpAny_getItem_list pl.isList (by omega) (by omega) (by simpa using ew) ⟨z, H, I, rw', q⟩
/-! zip of three lists of one length -/
def Itz3 (K : PySem.W.Frag) (a b c : Addr) : It :=
  ⟨fun i H => ∃ (xs ys zs : List V), SqL K H a xs ∧ SqL K H b ys ∧ SqL K H c zs ∧ i < xs.length ∧ i < ys.length ∧ i < zs.length,
    fun i H v H' => ∃ T x y z, v = .ref T ∧ H T = none ∧ H' = upd H T (.tup [x, y, z]) ∧ (∀ xs, SqL K H a xs → xs[i]? = some x) ∧ (∀ ys, SqL K H b ys → ys[i]? = some y) ∧ ∀ zs, SqL K H c zs → zs[i]? = some z,
    fun i H => ∃ xs ys zs : List V, SqL K H a xs ∧ SqL K H b ys ∧ SqL K H c zs ∧ xs.length = i ∧ ys.length = i ∧ zs.length = i⟩
theorem sep3 (I a b c : Nat) (h1 : a < I) (h2 : b < I) (h3 : c < I) : ZipSep3 (I + 5) (I + 3) (I + 4) I (I + 1) (I + 2) [I, a] [I + 1, b] [I + 2, c] := by
  constructor <;> simp <;> (intro e; have e' : (_ : Nat) = (_ : Nat) := e; clear e; omega)
theorem turn_zip3 {P : Program} {w : World} {K : PySem.W.Frag} {elts : List Expr} {kk : Nat} {tpos : Pos} {a b c z TI TO i1 i2 i3 : Addr} (D : ZipSep3 z TI TO i1 i2 i3 [i1, a] [i2, b] [i3, c]) (n1 : a ≠ i1) (n2 : b ≠ i2) (n3 : c ≠ i3) :
    Turn P w K (.Tuple elts kk tpos) (Itz3 K a b c) [z, TI, TO, i1, i2, i3] z (fun i h => IsZip h z TI TO .none ∧ IsTupOf3 h TI (.ref i1) (.ref i2) (.ref i3) ∧ (∃ x y u, IsTupOf3 h TO x y u) ∧ h.IsListIter i1 a i ∧ h.IsListIter i2 b i ∧ h.IsListIter i3 c i) where
  mem := by simp
  obj := fun i h st d hd => by
    obtain ⟨hz, hTI, ⟨x, y, u, hTO⟩, ⟨o1, e1, _, d1⟩, ⟨o2, e2, _, d2⟩, ⟨o3, e3, _, d3⟩⟩ := st
    have e' : d = z ∨ d = TI ∨ d = TO ∨ d = i1 ∨ d = i2 ∨ d = i3 := by simpa using hd
    rcases e' with q | q | q | q | q | q
    · rw [q]; exact ⟨_, hz, fun v q => nomatch q⟩
    · rw [q]; exact ⟨_, hTI, fun v q => nomatch q⟩
    · rw [q]; exact ⟨_, hTO, fun v q => nomatch q⟩
    · rw [q]; exact ⟨o1, e1, fun v q => by rw [d1] at q; cases q⟩
    · rw [q]; exact ⟨o2, e2, fun v q => by rw [d2] at q; cases q⟩
    · rw [q]; exact ⟨o3, e3, fun v q => by rw [d3] at q; cases q⟩
  keep := fun i h h' st k => by
    obtain ⟨hz, hTI, ⟨x, y, u, hTO⟩, h1, h2, h3⟩ := st
    exact ⟨k z (by simp) _ hz, k TI (by simp) _ hTI, ⟨x, y, u, k TO (by simp) _ hTO⟩, h1.at fun o q => k i1 (by simp) o q, h2.at fun o q => k i2 (by simp) o q, h3.at fun o q => k i3 (by simp) o q⟩
  item := by
    intro X hP hw hK hc i pins s σ H E I hf st hg
    subst hP hw hK
    obtain ⟨hz, hTI, ⟨x0, y0, u0, hTO⟩, h1, h2, h3⟩ := st
    obtain ⟨xs, ys, zs, hqx, hqy, hqz, lx, ly, lz⟩ := hg
    obtain ⟨t1, rv1, p1, _⟩ := I.list hqx
    obtain ⟨t2, rv2, p2, _⟩ := I.list hqy
    obtain ⟨t3, rv3, p3, _⟩ := I.list hqz
    have hh : X.A.in1.handled = none := I.ok.hd hc
    have hzl : z < s.heap.objs.size := Heap.lt_size hz
    refine wpAny_pyNext_zipD3_item D (Draws.list hh i1 a n1 t1.toArray) (Draws.list hh i2 b n2 t2.toArray) (Draws.list hh i3 c n3 t3.toArray) hz hTI hTO ⟨h1, p1.isList⟩ ⟨h2, p2.isList⟩ ⟨h3, p3.isList⟩
      (by have := rv1.length; simp; omega) (by have := rv2.length; simp; omega) (by have := rv3.length; simp; omega) ?_
    intro u1 u2 u3 h' tk q1 q2 q3 z' TO' d1 d2 d3 hT hsz hk
    obtain ⟨x, hx, rx⟩ : ∃ x, xs[i]? = some x ∧ RelV x u1 := by
      obtain ⟨u, hu, ru⟩ := rv1.get (List.getElem?_eq_getElem lx)
      have e1 : t1[i]? = some u1 := by simpa using q1
      rw [hu] at e1
      cases e1
      exact ⟨_, List.getElem?_eq_getElem lx, ru⟩
    obtain ⟨y, hy, ry⟩ : ∃ x, ys[i]? = some x ∧ RelV x u2 := by
      obtain ⟨u, hu, ru⟩ := rv2.get (List.getElem?_eq_getElem ly)
      have e1 : t2[i]? = some u2 := by simpa using q2
      rw [hu] at e1
      cases e1
      exact ⟨_, List.getElem?_eq_getElem ly, ru⟩
    obtain ⟨v, hv, rv⟩ : ∃ x, zs[i]? = some x ∧ RelV x u3 := by
      obtain ⟨u, hu, ru⟩ := rv3.get (List.getElem?_eq_getElem lz)
      have e1 : t3[i]? = some u3 := by simpa using q3
      rw [hu] at e1
      cases e1
      exact ⟨_, List.getElem?_eq_getElem lz, ru⟩
    refine ⟨_, rfl, wpAny_letOwnedTupleGo_zip (s := { s with heap := h', toks := tk }) z' fun h'' z'' sb => ?_⟩
    have hT2 : h''.get? s.heap.objs.size = some { cls := .type "tuple", data := .seq #[u1, u2, u3] } := (sb.2 _ (Nat.ne_of_gt hzl)).trans hT
    have new : ObjOk X.prog X.w (upd H s.heap.objs.size (.tup [x, y, v])) h'' s.heap.objs.size (.tup [x, y, v]) :=
      ⟨by show 3 ≤ sizeLine; decide, [u1, u2, u3], .cons rx (.cons ry (.cons rv .nil)), ⟨_, hT2, rfl, _, rfl⟩⟩
    have I1 := I.turnedNew (t' := tk) (ch := [z, TI, TO, i1, i2, i3]) (h' := h'') (fun d o hb q => (sb.2 d (fun q' => hb (by simp [q']))).trans
      (hk d o (fun q' => hb (by simp [q'])) (fun q' => hb (by simp [q'])) (fun q' => hb (by simp [q'])) (fun q' => hb (by simp [q'])) (fun q' => hb (by simp [q'])) q)) hf (Nat.le_refl _) new
    have ti1 : i1 ≠ z := D.zi1.symm
    have ti2 : i2 ≠ z := D.zi2.symm
    have ti3 : i3 ≠ z := D.zi3.symm
    refine ⟨.ref s.heap.objs.size, _, I1, rfl, ⟨_, x, y, v, rfl, I.hok.fresh (Nat.le_refl _), rfl, fun l hl => by rw [I.list_inj hl hqx]; exact hx, fun l hl => by rw [I.list_inj hl hqy]; exact hy, fun l hl => by rw [I.list_inj hl hqz]; exact hv⟩, ⟨z'', ?_, ⟨u1, u2, u3, ?_⟩, ?_, ?_, ?_⟩, fun d hdm => ?_⟩
    · exact (sb.2 _ D.TIz).trans (hk _ _ D.TIz D.TITO D.TIi1 D.TIi2 D.TIi3 hTI)
    · exact (sb.2 _ D.TOz).trans TO'
    · exact d1.1.at fun o q => (sb.2 _ ti1).trans q
    · exact d2.1.at fun o q => (sb.2 _ ti2).trans q
    · exact d3.1.at fun o q => (sb.2 _ ti3).trans q
    · have hlt : d < s.heap.objs.size := by
        have e' : d = z ∨ d = TI ∨ d = TO ∨ d = i1 ∨ d = i2 ∨ d = i3 := by simpa using hdm
        rcases e' with q | q | q | q | q | q
        · rw [q]; exact hzl
        · rw [q]; exact Heap.lt_size hTI
        · rw [q]; exact Heap.lt_size hTO
        · rw [q]; obtain ⟨_, e1, _⟩ := h1; exact Heap.lt_size e1
        · rw [q]; obtain ⟨_, e2, _⟩ := h2; exact Heap.lt_size e2
        · rw [q]; obtain ⟨_, e3, _⟩ := h3; exact Heap.lt_size e3
      rw [upd_ne (Nat.ne_of_lt hlt)]
      exact (hf d hdm).1
  done := by
    intro X hP hw hK hc i pins s σ H E I hf st hg
    subst hP hw hK
    obtain ⟨hz, hTI, ⟨x0, y0, u0, hTO⟩, h1, h2, h3⟩ := st
    obtain ⟨xs, ys, zs, hqx, hqy, hqz, lx, ly, lz⟩ := hg
    obtain ⟨t1, rv1, p1, _⟩ := I.list hqx
    obtain ⟨t2, rv2, p2, _⟩ := I.list hqy
    obtain ⟨t3, rv3, p3, _⟩ := I.list hqz
    have l1 := rv1.length
    have l2 := rv2.length
    have l3 := rv3.length
    have hh : X.A.in1.handled = none := I.ok.hd hc
    refine wpAny_pyNext_zipD3_end D (Draws.list hh i1 a n1 t1.toArray) (Draws.list hh i2 b n2 t2.toArray) (Draws.list hh i3 c n3 t3.toArray) hz hTI hTO ⟨h1, p1.isList⟩ ⟨h2, p2.isList⟩ ⟨h3, p3.isList⟩
      (by simp; omega) (by simp; omega) (by simp; omega) (.inl (by simp; omega)) ?_
    intro h' tk hk
    exact ⟨rfl, I.turnedL (t' := tk) (ch := [z, TI, TO, i1, i2, i3]) (fun d o hb q =>
      hk d o (fun q' => hb (by simp [q'])) (fun q' => hb (by simp [q'])) (fun q' => hb (by simp [q'])) (fun q' => hb (by simp [q'])) (fun q' => hb (by simp [q'])) q) hf⟩
  self := fun A i s Q E st h => wpAny_pyIter_zip st.1 h
def iZip3 (K : PySem.W.Frag) (ta : TA) : TI := fun σ H R => ta σ H fun vs H1 => ∃ a b c xs ys zs, vs = [.ref a, .ref b, .ref c] ∧ SqL K H1 a xs ∧ SqL K H1 b ys ∧ SqL K H1 c zs ∧ R (Itz3 K a b c) H1
theorem pi_zip3 {X : Cx} {e e2 e3 : Expr} {ta : TA} {p pos tpos : Pos} {elts : List Expr} {kk : Nat} (hg : Gl X "zip") (hm : X.mg "zip" = none) (ha : PA X [e, e2, e3] ta)
    (hs : starEach [e, e2, e3] X.env = (false, eval e X.env) :: starEach [e2, e3] X.env := by rfl) (hpl : (backTo pos (starEach [e2, e3] X.env)).any (·.1) = false := by rfl) :
    PI X (.Tuple elts kk tpos) (.Call (.Name "zip" p) [e, e2, e3] [] pos) (iZip3 X.K ta) := by
  constructor
  intro pins s σ H R I h
  refine Call_ (ld_blt I hg hm PyProof.Rows.boot_zip (PyProof.Rows.callWith_type1 (thn (ha.run pos pins s σ H _ I h) ?_) hs hpl))
  rintro us s1 ⟨vs, H1, I1, r1, a, b, c, xs, ys, zs, rfl, hqx, hqy, hqz, q⟩
  cases r1 with
  | cons ra rr =>
    cases rr with
    | cons rb rr =>
      cases rr with
      | cons rc rr =>
        cases rr
        cases ra
        cases rb
        cases rc
        obtain ⟨t1, rv1, p1, _⟩ := I1.list hqx
        obtain ⟨t2, rv2, p2, _⟩ := I1.list hqy
        obtain ⟨t3, rv3, p3, _⟩ := I1.list hqz
        have la : a < s1.heap.objs.size := p1.lt
        have lb : b < s1.heap.objs.size := p2.lt
        have lc : c < s1.heap.objs.size := p3.lt
        refine zip_begins3 (begins_list a t1.toArray) (begins_list b t2.toArray) (begins_list c t3.toArray) p1.isList p2.isList p3.isList fun h' hz hTI hTO g1 g2 g3 hsz hk => wpAny_pyIter_zip hz ?_
        have I2 : Inv X pins σ H1 { s1 with heap := h' } := I1.kept (t' := s1.toks) hk
        refine ⟨s1.heap.objs.size + 5, [s1.heap.objs.size + 5, s1.heap.objs.size + 3, s1.heap.objs.size + 4, s1.heap.objs.size, s1.heap.objs.size + 1, s1.heap.objs.size + 2], _, _, H1, rfl, I2,
          turn_zip3 (sep3 s1.heap.objs.size a b c la lb lc) (Nat.ne_of_lt la) (Nat.ne_of_lt (Nat.lt_of_lt_of_le lb (Nat.le_add_right _ 1))) (Nat.ne_of_lt (Nat.lt_of_lt_of_le lc (Nat.le_add_right _ 2))), ⟨hz, hTI, ⟨_, _, _, hTO⟩, ⟨_, g1, rfl, rfl⟩, ⟨_, g2, rfl, rfl⟩, ⟨_, g3, rfl, rfl⟩⟩, fun d hdm => ?_, q⟩
        have hle : s1.heap.objs.size ≤ d := by
          simp only [List.mem_cons, List.not_mem_nil, or_false] at hdm
          rcases hdm with z | z | z | z | z | z
          · rw [z]; exact Nat.le_add_right _ _
          · rw [z]; exact Nat.le_add_right _ _
          · rw [z]; exact Nat.le_add_right _ _
          · rw [z]; exact Nat.le_refl _
          · rw [z]; exact Nat.le_add_right _ _
          · rw [z]; exact Nat.le_add_right _ _
        exact I1.fpOk hle (I1.hok.fresh hle)
end Hl

set_option Elab.async false
set_option linter.all false
set_option maxRecDepth 100000
set_option maxHeartbeats 4000000
namespace Hl
open PySem PySem.Spec PyProof.Rows L2
abbrev sDown : Stmt := topS 25
abbrev sTimes : Stmt := topS 26
abbrev sWeight : Stmt := topS 27
abbrev sGain : Stmt := topS 28
/-- a rule as data -/
structure Rl where
  e : Int
  a : Int
  m : Option Int
  ws : List (Str × Int)
  gs : List (Str × Int)
def moV : Option Int → V
  | none => .non
  | some k => .int k
def PairAt (H : Hp) (v : V) (p : Str × Int) : Prop := ∃ a, v = .ref a ∧ H a = some (.tup [.str p.1, .int p.2])
def PairsAt (H : Hp) (t : Addr) (ps : List (Str × Int)) : Prop := ∃ vs, H t = some (.tup vs) ∧ Paired (PairAt H) vs ps
def RuleAt (H : Hp) (v : V) (r : Rl) : Prop := ∃ t wt gt, v = .ref t ∧ H t = some (.tup [.str "each", .int r.e, .int r.a, .ref wt, .ref gt, moV r.m]) ∧ PairsAt H wt r.ws ∧ PairsAt H gt r.gs
theorem paired_mono {α β : Type} {R S : α → β → Prop} (h : ∀ a b, R a b → S a b) : ∀ {xs : List α} {ys : List β}, Paired R xs ys → Paired S xs ys
  | _, _, .nil => .nil
  | _, _, .cons a r => .cons (h _ _ a) (paired_mono h r)
theorem paired_get {α β : Type} {R : α → β → Prop} : ∀ {xs : List α} {ys : List β} (_ : Paired R xs ys) (i : Nat) (x : α), xs[i]? = some x → ∃ y, ys[i]? = some y ∧ R x y
  | _, _, .nil, i, x, e => by cases e
  | _, _, .cons a r, 0, x, e => by
    cases Option.some.inj e
    exact ⟨_, rfl, a⟩
  | _, _, .cons a r, i + 1, x, e => paired_get r i x e
theorem paired_get2 {α β : Type} {R : α → β → Prop} : ∀ {xs : List α} {ys : List β} (_ : Paired R xs ys) (i : Nat) (y : β), ys[i]? = some y → ∃ x, xs[i]? = some x ∧ R x y
  | _, _, .nil, i, x, e => by cases e
  | _, _, .cons a r, 0, x, e => by
    cases Option.some.inj e
    exact ⟨_, rfl, a⟩
  | _, _, .cons a r, i + 1, x, e => paired_get2 r i x e
section
variable {H H' : Hp}
theorem PairAt.kp {v : V} {p : Str × Int} (k : Kp H H') (h : PairAt H v p) : PairAt H' v p := by
  obtain ⟨a, e, h⟩ := h
  exact ⟨a, e, k.keep _ _ nd_tup h⟩
theorem PairsAt.kp {t : Addr} {p : List (Str × Int)} (k : Kp H H') (h : PairsAt H t p) : PairsAt H' t p := by
  obtain ⟨vs, e, h⟩ := h
  exact ⟨vs, k.keep _ _ nd_tup e, paired_mono (fun _ _ => PairAt.kp k) h⟩
theorem RuleAt.kp {v : V} {r : Rl} (k : Kp H H') (h : RuleAt H v r) : RuleAt H' v r := by
  obtain ⟨t, wt, gt, e, h, h1, h2⟩ := h
  exact ⟨t, wt, gt, e, k.keep _ _ nd_tup h, h1.kp k, h2.kp k⟩
end
def dn (r : Rl) (x : Int) : Int := downF r.e r.a r.m x
def tm (r : Rl) (x : Int) : Int := timesF r.e r.a r.m x
structure OkR (r : Rl) : Prop where
  oe : OkE r.e r.a r.m
  wl : r.ws.length ≤ 3
  wv : ∀ p ∈ r.ws, 0 ≤ p.2 ∧ p.2 ≤ 3
  gl : r.gs.length ≤ 3
  gv : ∀ p ∈ r.gs, 0 ≤ p.2 ∧ p.2 ≤ 3
section
variable {P : Program} {w : World} {K : PySem.W.Frag} {mg : Str → Option Value} {base : Heap}
/-! _law_down -/
structure Bj (mg : Str → Option Value) : Prop where
  min : mg "min" = none
  max : mg "max" = none
  sum : mg "sum" = none
  zip : mg "zip" = none
  sorted : mg "sorted" = none
def spDown : Sp := fun vs H Q _ => ∃ (v : V) (r : Rl) (x : Int), vs = [v, .int x] ∧ RuleAt H v r ∧ OkE r.e r.a r.m ∧ Q (.int (dn r x)) H
theorem scDo : FnScope ["_law_rule_here", "_law_come"] ["_law_rule_here", "_law_come"] (defScope sDown) := ⟨rfl, rfl, rfl, by decide +kernel, rfl, by decide +kernel, by decide +kernel⟩
theorem ok_down {f : Addr} {fd : FuncData} {k : Nat} (F : Fun K "_law_down" "_law_down" sDown f fd) (B : Bj mg) : FnOk P w K mg base CX0 (k + 1) f fd ["_law_rule_here", "_law_come"] spDown := by
  refine F.ok scDo (fun vs H Q E h => ?_) (fun cdv A outer s H vs Q E hr h => ?_)
  · obtain ⟨v, r, x, rfl, _⟩ := h
    rfl
  · obtain ⟨v, r, x, rfl, ⟨t, wt, gt, rfl, ht, _, _⟩, oe, q⟩ := h
    refine ⟨_, pss_cons (ps_if (pt_cmpR op_notN (pe_ix ix_tup (pv 0) pe_int (fun _ _ => rfl)) pe_non (nomark _))
        (pss_one (ps_ret (pe_callB (call_min2 rfl) (by rfl) B.min (by decide +kernel) (pa_cons (pv 1) (pa_cons (pe_op op_add (pe_ix ix_tup (pv 0) pe_int (fun _ _ => rfl)) (pe_op op_mul (pe_ix ix_tup (pv 0) pe_int (fun _ _ => rfl)) (pe_ix ix_tup (pv 0) pe_int (fun _ _ => rfl)))) pa_nil))))) pss_nil)
      (pss_one (ps_ret (pe_ifExp (pt_cmpR op_lt (pv 1) (pe_ix ix_tup (pv 0) pe_int (fun _ _ => rfl)) (nomark _)) (pv 1) (pe_op op_add (pe_ix ix_tup (pv 0) pe_int (fun _ _ => rfl)) (pe_op op_mod (pe_op op_sub (pv 1) (pe_ix ix_tup (pv 0) pe_int (fun _ _ => rfl))) (pe_ix ix_tup (pv 0) pe_int (fun _ _ => rfl))))))), ?_⟩
    obtain ⟨re, ra, rm, rws, rgs⟩ := r
    obtain ⟨e1, e4, a0, a2, mo⟩ := oe
    dsimp only at *
    refine ⟨_, rfl, t, _, 5, _, rfl, rfl, SqT.of ht, atI_nat (j := 5) rfl, rfl, _, rfl, ?_⟩
    cases rm with
    | none =>
      refine iF rfl ?_
      refine ⟨_, rfl, _, rfl, t, _, 2, _, rfl, rfl, SqT.of ht, atI_nat (j := 2) rfl, _, _, rfl, rfl, _, rfl, ite2 (fun e => ?_) (fun e => ?_)⟩
      · have h1 : x < ra := of_decide_eq_true e
        refine ⟨_, rfl, ?_⟩
        have : dn ⟨re, ra, none, rws, rgs⟩ x = x := if_pos h1
        rw [this] at q
        exact q
      · have h1 : ¬ x < ra := fun z => e (decide_eq_true z)
        refine ⟨_, rfl, t, _, 2, _, rfl, rfl, SqT.of ht, atI_nat (j := 2) rfl, _, rfl, _, rfl, t, _, 2, _, rfl, rfl, SqT.of ht, atI_nat (j := 2) rfl, _, _, rfl, rfl, _, rfl, t, _, 1, _, rfl, rfl, SqT.of ht, atI_nat (j := 1) rfl, _, _, rfl, rfl, (show (0 : Int) < re by omega), _, _, rfl, rfl, ?_⟩
        have : dn ⟨re, ra, none, rws, rgs⟩ x = ra + (x - ra) % re := if_neg h1
        rw [this] at q
        exact q
    | some kk =>
      refine iT rfl ?_
      refine ⟨_, rfl, _, rfl, t, _, 2, _, rfl, rfl, SqT.of ht, atI_nat (j := 2) rfl, _, rfl, t, _, 1, _, rfl, rfl, SqT.of ht, atI_nat (j := 1) rfl, _, rfl, t, _, 5, _, rfl, rfl, SqT.of ht, atI_nat (j := 5) rfl, _, _, rfl, rfl, .inl ⟨by omega, by omega⟩, _, _, rfl, rfl, _, _, rfl, ?_⟩
      exact q
/-! _law_times_of -/
def spTimes : Sp := fun vs H Q _ => ∃ (v : V) (r : Rl) (x : Int), vs = [v, .int x] ∧ RuleAt H v r ∧ OkE r.e r.a r.m ∧ Q (.int (tm r x)) H
theorem scTi : FnScope ["_law_rule_here", "_law_come", "_law_found"] ["_law_rule_here", "_law_come"] (defScope sTimes) := ⟨rfl, rfl, rfl, by decide +kernel, rfl, by decide +kernel, by decide +kernel⟩
theorem ok_times {f : Addr} {fd : FuncData} {k : Nat} (F : Fun K "_law_times_of" "_law_times_of" sTimes f fd) (B : Bj mg) : FnOk P w K mg base CX0 (k + 1) f fd ["_law_rule_here", "_law_come"] spTimes := by
  refine F.ok scTi (fun vs H Q E h => ?_) (fun cdv A outer s H vs Q E hr h => ?_)
  · obtain ⟨v, r, x, rfl, _⟩ := h
    rfl
  · obtain ⟨v, r, x, rfl, ⟨t, wt, gt, rfl, ht, _, _⟩, oe, q⟩ := h
    refine ⟨_, pss_cons (ps_set (i := 2) scTi.nd rfl (.inl rfl) (pe_op op_fdiv (pe_callB (call_max2 rfl) (by rfl) B.max (by decide +kernel) (pa_cons pe_int (pa_cons (pe_op op_sub (pv 1) (pe_ix ix_tup (pv 0) pe_int (fun _ _ => rfl))) pa_nil))) (pe_ix ix_tup (pv 0) pe_int (fun _ _ => rfl))))
      (pss_one (ps_ret (pe_ifExp (pt_cmpR op_isN (pe_ix ix_tup (pv 0) pe_int (fun _ _ => rfl)) pe_non (nomark _)) (pv 2) (pe_callB (call_min2 rfl) (by rfl) B.min (by decide +kernel) (pa_cons (pv 2) (pa_cons (pe_ix ix_tup (pv 0) pe_int (fun _ _ => rfl)) pa_nil)))))), ?_⟩
    obtain ⟨re, ra, rm, rws, rgs⟩ := r
    obtain ⟨e1, e4, a0, a2, mo⟩ := oe
    dsimp only at *
    refine ⟨_, rfl, _, rfl, t, _, 2, _, rfl, rfl, SqT.of ht, atI_nat (j := 2) rfl, _, _, rfl, rfl, _, _, rfl, _, rfl, t, _, 1, _, rfl, rfl, SqT.of ht, atI_nat (j := 1) rfl, _, _, rfl, rfl, ⟨by omega, by omega⟩, ?_⟩
    refine ⟨_, rfl, t, _, 5, _, rfl, rfl, SqT.of ht, atI_nat (j := 5) rfl, rfl, _, rfl, ?_⟩
    cases rm with
    | none => exact iT rfl ⟨_, rfl, q⟩
    | some kk => exact iF rfl ⟨_, rfl, _, rfl, t, _, 5, _, rfl, rfl, SqT.of ht, atI_nat (j := 5) rfl, _, _, rfl, q⟩
/-! _law_weight -/
def wt (r : Rl) (n : Str) : Int := ((r.ws.filter fun p => decide (p.1 = n)).map (·.2)).sum
def spWeight : Sp := fun vs H Q _ => ∃ (v : V) (r : Rl) (n : Str), vs = [v, .str n] ∧ RuleAt H v r ∧ r.ws.length ≤ 3 ∧ ∀ H', Same H H' → Q (.int (wt r n)) H'
theorem scWe : FnScope ["_law_rule_here", "_law_name", "_law_one", "_law_weight_here"] ["_law_rule_here", "_law_name"] (defScope sWeight) := ⟨rfl, rfl, rfl, by decide +kernel, rfl, by decide +kernel, by decide +kernel⟩
theorem ok_weight {f : Addr} {fd : FuncData} {k : Nat} (F : Fun K "_law_weight" "_law_weight" sWeight f fd) (B : Bj mg) : FnOk P w K mg base CX0 (k + 1) f fd ["_law_rule_here", "_law_name"] spWeight := by
  refine F.ok scWe (fun vs H Q E h => ?_) (fun cdv A outer s H vs Q E hr h => ?_)
  · obtain ⟨v, r, x, rfl, _⟩ := h
    rfl
  · obtain ⟨v, r, n, rfl, ⟨t, wt', gt, rfl, ht, ⟨ps, hps, hp⟩, _⟩, hl, q⟩ := h
    refine ⟨_, pss_one (ps_ret (pe_callB (cr_sum rfl) (by rfl) B.sum (by decide +kernel) (pa_cons
      (pe_lc (own := [("_law_one", 2), ("_law_weight_here", 3)]) (g := gTup K 2 (gCons (gName 2) (gCons (gName 3) gNil))) (tt := tTest (tOp rEq (tVar 2) (tVar 1))) rfl scWe.nd (pi_tup (pe_ix ix_tup (pv 0) pe_int (fun _ _ => rfl)))
        (blkOk_by (own := [("_law_one", 2), ("_law_weight_here", 3)]) (N := ["_law_rule_here", "_law_name", "_law_one", "_law_weight_here"]) (sc := defScope sWeight) (by decide +kernel))
        (fun _ _ _ _ _ => pg_tup rfl (pgs_cons (pg_name (i := 2) scWe.nd rfl (Or.inl rfl)) (pgs_cons (pg_name (i := 3) scWe.nd rfl (Or.inl rfl)) pgs_nil)))
        (fun _ _ _ _ _ => pts_one (pt_cmpR op_eq (pv 2) (pv 1) (nomark _)))
        (fun _ _ _ _ _ => pv 3)) pa_nil))), ?_⟩
    refine ⟨_, rfl, t, _, 3, _, rfl, rfl, SqT.of ht, atI_nat (j := 3) rfl, wt', rfl, ⟨_, SqT.of hps⟩, fun D hD => ?_⟩
    have lp := hp.length
    refine lc_tup (K := K) (a := wt') (xs := ps) (fun i H' => Same H H' ∧ H' D = some (.lst ((((r.ws.take i).filter fun p => decide (p.1 = n)).map (·.2)).map V.int))) ⟨same_upd hD, upd_same⟩ (fun i H' _ ⟨sm, _⟩ => same_t sm (SqT.of hps)) ?_ ?_
    · rintro i x H' hx ⟨sm, hD'⟩
      obtain ⟨p, hpi, a, rfl, ha⟩ := paired_get hp i x hx
      refine ⟨a, _, rfl, SqT.of (sm _ _ ha), rfl, _, _, rfl, _, _, rfl, rfl, ?_⟩
      refine ⟨rfl, ?_⟩
      refine ⟨_, rfl, _, rfl, rfl, _, rfl, ite2 (fun e => ?_) (fun e => ?_)⟩
      · have en : p.1 = n := V.str.inj (of_decide_eq_true e)
        refine ⟨_, rfl, _, hD', ?_, ?_⟩
        · rw [List.length_map, List.length_map]
          refine small1000 (Nat.le_trans (List.length_filter_le _ _) ?_)
          rw [List.length_take]
          omega
        · refine ⟨fun b o eb => ?_, ?_⟩
          · rw [upd_ne (ne_of_none eb hD)]
            exact sm _ _ eb
          · rw [upd_same, List.take_add_one, hpi]
            simp [en]
      · have en : ¬ p.1 = n := fun z => e (by rw [z]; exact decide_eq_true rfl)
        refine ⟨sm, ?_⟩
        rw [hD', List.take_add_one, hpi]
        simp [en]
    · rintro H' ⟨sm, hD'⟩
      rw [lp, List.take_length] at hD'
      exact ⟨D, _, rfl, SqL.of hD', q H' sm⟩
end
end Hl

set_option Elab.async false
set_option linter.all false
set_option maxRecDepth 100000
set_option maxHeartbeats 4000000
namespace Hl
open PySem PySem.Spec PyProof.Rows L2
theorem for_zip3 {K : PySem.W.Frag} {a b c : Addr} {xs ys zs : List V} {g : TG} {tb : TS} {D : Ends} {σ : L2.St} {H : Hp} {n : Nat} (hx : xs.length = n) (hy : ys.length = n) (hz : zs.length = n) (Pv : Nat → L2.St → Hp → Prop) (h0 : Pv 0 σ H)
    (hq : ∀ i σ H, Pv i σ H → SqL K H a xs ∧ SqL K H b ys ∧ SqL K H c zs)
    (hs : ∀ (i : Nat) (x y z : V) (T : Addr) (σ : L2.St) (H : Hp), xs[i]? = some x → ys[i]? = some y → zs[i]? = some z → Pv i σ H → H T = none → g (.ref T) σ (upd H T (.tup [x, y, z])) fun σ2 H2 => tb { D with nx := Pv (i + 1), ct := Pv (i + 1), bk := D.nx } σ2 H2)
    (hd : ∀ σ H, Pv n σ H → D.nx σ H) :
    ∃ W : Nat → Nat → L2.St → Hp → Prop, (∃ m, W 0 m σ H) ∧ ∀ i m σ H, W i m σ H →
      ((Itz3 K a b c).stop i H ∧ D.nx σ H) ∨ ((Itz3 K a b c).go i H ∧ ∃ N : L2.St → Hp → Prop, (∀ σ' H', N σ' H' → ∃ m', m' < m ∧ W (i + 1) m' σ' H') ∧ ∀ v H', (Itz3 K a b c).yld i H v H' → g v σ H' fun σ2 H2 => tb { D with nx := N, ct := N, bk := D.nx } σ2 H2) := by
  refine ⟨fun i m σ H => m = n - i ∧ i ≤ n ∧ Pv i σ H, ⟨n, rfl, Nat.zero_le _, h0⟩, ?_⟩
  rintro i m σ H ⟨rfl, hi, p⟩
  obtain ⟨qx, qy, qz⟩ := hq i σ H p
  by_cases hlt : i < n
  · refine .inr ⟨⟨xs, ys, zs, qx, qy, qz, by omega, by omega, by omega⟩, Pv (i + 1), fun σ' H' p' => ⟨n - (i + 1), by omega, rfl, hlt, p'⟩, ?_⟩
    rintro v H' ⟨T, x, y, z, rfl, hT, rfl, f1, f2, f3⟩
    exact hs i x y z T σ H (f1 _ qx) (f2 _ qy) (f3 _ qz) p hT
  · have e : i = n := by omega
    subst e
    exact .inl ⟨⟨xs, ys, zs, qx, qy, qz, hx, hy, hz⟩, hd σ H p⟩
/-- the place of a name -/
def ixOf (outs : List Str) (n : Str) : Nat := outs.findIdx fun s => decide (s = n)
theorem ixOf_lt {outs : List Str} {n : Str} (h : n ∈ outs) : ixOf outs n < outs.length := List.findIdx_lt_length_of_exists ⟨n, h, decide_eq_true rfl⟩
theorem ixOf_get {outs : List Str} {n : Str} (h : n ∈ outs) : outs[ixOf outs n]? = some n := by
  have hl := ixOf_lt h
  rw [List.getElem?_eq_getElem hl]
  have := List.findIdx_getElem (xs := outs) (p := fun s => decide (s = n)) (w := hl)
  exact congrArg some (of_decide_eq_true this)
theorem ixOf_no {outs : List Str} {n : Str} {m : Nat} {s : Str} (h : m < ixOf outs n) (e : outs[m]? = some s) : s ≠ n := by
  obtain ⟨hl, rfl⟩ := List.getElem?_eq_some_iff.mp e
  have := List.not_of_lt_findIdx (xs := outs) (p := fun s => decide (s = n)) h
  intro z
  simp [z] at this
theorem map_str_get {outs : List Str} {i : Nat} {v : V} (h : (outs.map V.str)[i]? = some v) : ∃ s, outs[i]? = some s ∧ v = .str s := by
  rw [List.getElem?_map] at h
  cases e : outs[i]? with
  | none =>
    rw [e] at h
    cases h
  | some s =>
    rw [e] at h
    exact ⟨s, rfl, (Option.some.inj h).symm⟩
theorem map_int_get {outs : List Int} {i : Nat} {v : V} (h : (outs.map V.int)[i]? = some v) : ∃ s, outs[i]? = some s ∧ v = .int s := by
  rw [List.getElem?_map] at h
  cases e : outs[i]? with
  | none =>
    rw [e] at h
    cases h
  | some s =>
    rw [e] at h
    exact ⟨s, rfl, (Option.some.inj h).symm⟩
theorem strs_flat (ns : List Str) : (ns.map V.str).all flatV = true := by
  rw [List.all_map]
  exact List.all_eq_true.mpr fun _ _ => rfl
theorem ints_flat (ns : List Int) : (ns.map V.int).all flatV = true := by
  rw [List.all_map]
  exact List.all_eq_true.mpr fun _ _ => rfl
def addAt (acc : List Int) (j : Nat) (d : Int) : List Int := acc.set j ((acc[j]?).getD 0 + d)
def gStep (outs : List Str) (r : Rl) (x y : Int) (acc : List Int) (p : Str × Int) : List Int := addAt acc (ixOf outs p.1) (p.2 * (tm r y - tm r x))
def gRule (outs : List Str) (r : Rl) (x y : Int) (acc : List Int) : List Int := r.gs.foldl (gStep outs r x y) acc
def gAll (outs : List Str) (l : List (Rl × Int × Int)) : List Int := l.foldl (fun acc t => gRule outs t.1 t.2.1 t.2.2 acc) (List.replicate outs.length 0)
theorem gStep_len {outs : List Str} {r : Rl} {x y : Int} {acc : List Int} {p : Str × Int} : (gStep outs r x y acc p).length = acc.length := by
  unfold gStep addAt
  rw [List.length_set]
theorem gFold_len {outs : List Str} {r : Rl} {x y : Int} : ∀ (l : List (Str × Int)) (acc : List Int), (l.foldl (gStep outs r x y) acc).length = acc.length
  | [], _ => rfl
  | p :: l, acc => by
    show (l.foldl (gStep outs r x y) (gStep outs r x y acc p)).length = acc.length
    rw [gFold_len l, gStep_len]
theorem gRule_len {outs : List Str} {r : Rl} {x y : Int} {acc : List Int} : (gRule outs r x y acc).length = acc.length := gFold_len _ _
theorem gAll_lenA {outs : List Str} : ∀ (l : List (Rl × Int × Int)) (acc : List Int), (l.foldl (fun acc t => gRule outs t.1 t.2.1 t.2.2 acc) acc).length = acc.length
  | [], _ => rfl
  | p :: l, acc => by
    show (l.foldl _ (gRule outs p.1 p.2.1 p.2.2 acc)).length = acc.length
    rw [gAll_lenA l, gRule_len]
theorem gAll_len {outs : List Str} (l : List (Rl × Int × Int)) : (gAll outs l).length = outs.length := by
  unfold gAll
  rw [gAll_lenA, List.length_replicate]
theorem rep_one (n : Nat) : (List.replicate n [V.int 0]).flatten = (List.replicate n (0 : Int)).map V.int := by
  induction n with
  | zero => rfl
  | succ n ih =>
    rw [List.replicate_succ, List.flatten_cons, ih, List.replicate_succ]
    rfl
section
variable {P : Program} {w : World} {K : PySem.W.Frag} {mg : Str → Option Value} {base : Heap}
def spGain (K : PySem.W.Frag) : Sp := fun vs H Q _ => ∃ (a o x y : Addr) (vr : List V) (rs : List Rl) (outs : List Str) (xs ys : List Int), vs = [.ref a, .ref o, .ref x, .ref y] ∧ H a = some (.lst vr) ∧ Paired (RuleAt H) vr rs ∧ SqL K H o (outs.map V.str) ∧ SqL K H x (xs.map V.int) ∧ SqL K H y (ys.map V.int) ∧
  xs.length = rs.length ∧ ys.length = rs.length ∧ outs.length ≤ 1000 ∧ (∀ r ∈ rs, OkR r ∧ ∀ p ∈ r.gs, p.1 ∈ outs) ∧ ∀ H' t, Same H H' → H t = none → H' t = some (.tup ((gAll outs (rs.zip (xs.zip ys))).map V.int)) → Q (.ref t) H'
theorem scGa : FnScope ["_law_rules", "_law_outs", "_law_early", "_law_late", "_law_found", "_law_rule_here", "_law_one", "_law_two", "_law_name", "_law_many"] ["_law_rules", "_law_outs", "_law_early", "_law_late"] (defScope sGain) := ⟨rfl, rfl, rfl, by decide +kernel, rfl, by decide +kernel, by decide +kernel⟩
theorem ok_gain {f fT : Addr} {fd fdT : FuncData} {k : Nat} (F : Fun K "_law_gain" "_law_gain" sGain f fd) (GT : FnOk P w K mg base CX0 k fT fdT ["_law_rule_here", "_law_come"] spTimes) (kT : PySem.W.keepIn K (.ref fT) = true) (bT : Binds K fdT ["_law_rule_here", "_law_come"] []) (gT : mg "_law_times_of" = some (.ref fT)) (B : Bi mg) (J : Bj mg) :
    FnOk P w K mg base CX0 (k + 1) f fd ["_law_rules", "_law_outs", "_law_early", "_law_late"] (spGain K) := by
  refine F.ok scGa (fun vs H Q E h => ?_) (fun cdv A outer s H vs Q E hr h => ?_)
  · obtain ⟨a, o, x, y, vr, rs, outs, xs, ys, rfl, _⟩ := h
    rfl
  · obtain ⟨a, o, x, y, vr, rs, outs, xs, ys, rfl, ha, hR, ho, hx, hy, lx, ly, lo, ok, q⟩ := h
    refine ⟨_, pss_cons (ps_set (i := 4) scGa.nd rfl (.inl rfl) (pe_op op_rep (pe_lst (pa_cons pe_int pa_nil)) (pe_callB call_len_seq (by rfl) B.len PySem.boot_len (pa_cons (pv 1) pa_nil))))
      (pss_cons (ps_for PassesOwn.never rfl (pi_zip3 (by rfl) J.zip (pa_cons (pv 0) (pa_cons (pv 2) (pa_cons (pv 3) pa_nil)))) (pg_tup rfl (pgs_cons (pg_name (i := 5) scGa.nd rfl (.inl rfl)) (pgs_cons (pg_name (i := 6) scGa.nd rfl (.inl rfl)) (pgs_cons (pg_name (i := 7) scGa.nd rfl (.inl rfl)) pgs_nil))))
        (pss_one (ps_for PassesOwn.never rfl (pi_tup (pe_ix ix_tup (pv 5) pe_int (fun _ _ => rfl))) (pg_tup rfl (pgs_cons (pg_name (i := 8) scGa.nd rfl (.inl rfl)) (pgs_cons (pg_name (i := 9) scGa.nd rfl (.inl rfl)) pgs_nil)))
          (pss_one (ps_augS (pv 4) (pe_bm PySem.F.plainAttrs_list PySem.F.slot_list_index PySem.F.type_list_index mt_index (pv 1) (pa_cons (pv 8) pa_nil)) get_list
            (pe_op op_mul (pv 9) (pe_op op_sub (pe_call GT hr (by rfl) gT kT bT .nil pass0 (pa_cons (pv 5) (pa_cons (pv 7) pa_nil))) (pe_call GT hr (by rfl) gT kT bT .nil pass0 (pa_cons (pv 5) (pa_cons (pv 6) pa_nil))))) ip_add set_list)))))
      (pss_one (ps_ret (pe_callTy call_tuple_of (by rfl) B.tup (by decide +kernel) (pa_cons (pv 4) pa_nil))))), ?_⟩
    -- found
    refine ⟨(by show 1 ≤ sizeLine; decide), fun z nz => ?_⟩
    have s1 := same_upd (o := .lst [.int 0]) nz
    refine ⟨_, rfl, o, _, rfl, .inl (s1.seq ho), z, (outs.length : Int), _, rfl, by rw [List.length_map], upd_same, by omega, by omega, ?_, fun D hD => ?_⟩
    · rw [Int.toNat_natCast]
      show 1 * outs.length ≤ sizeLine
      exact Nat.le_of_lt (small1000 (by omega))
    have s2 := s1.trans (same_upd (o := .lst (List.replicate (outs.length : Int).toNat [V.int 0]).flatten) hD)
    have nD : H D = none := s1.free hD
    rw [Int.toNat_natCast, rep_one] at s2 ⊢
    generalize hH2 : (upd (upd H z (.lst [.int 0])) D (.lst ((List.replicate outs.length (0 : Int)).map V.int))) = H2 at *
    have hD2 : H2 D = some (.lst ((List.replicate outs.length (0 : Int)).map V.int)) := by rw [← hH2]; exact upd_same
    have lr := hR.length
    refine ⟨_, rfl, _, rfl, _, rfl, a, x, y, _, _, _, rfl, SqL.of (s2 _ _ ha), s2.seq hx, s2.seq hy, ?_⟩
    refine for_zip3 (n := rs.length) lr (by rw [List.length_map]; exact lx) (by rw [List.length_map]; exact ly)
      (fun i σ H' => ∃ v5 v6 v7 v8 v9 : Option V, σ = [some (.ref a), some (.ref o), some (.ref x), some (.ref y), some (.ref D), v5, v6, v7, v8, v9] ∧ Same H H' ∧ H' D = some (.lst ((gAll outs ((rs.zip (xs.zip ys)).take i)).map V.int)))
      ⟨none, none, none, none, none, rfl, s2, hD2⟩ (fun i σ H' ⟨_, _, _, _, _, _, sm, _⟩ => ⟨SqL.of (sm _ _ ha), sm.seq hx, sm.seq hy⟩) ?_ ?_
    · rintro i vr' vx vy T σ H3 gr gx gy ⟨v5, v6, v7, v8, v9, rfl, sm, hD3⟩ nT
      obtain ⟨r, hr', ra⟩ := paired_get hR i _ gr
      obtain ⟨xi, hxi, rfl⟩ := map_int_get gx
      obtain ⟨yi, hyi, rfl⟩ := map_int_get gy
      have hri : r ∈ rs := List.mem_of_getElem? hr'
      obtain ⟨okr, gin⟩ := ok r hri
      have sT := same_upd (o := .tup [vr', .int xi, .int yi]) nT
      have hz : (rs.zip (xs.zip ys))[i]? = some (r, xi, yi) := by
        rw [List.getElem?_zip_eq_some]
        refine ⟨hr', ?_⟩
        rw [List.getElem?_zip_eq_some]
        exact ⟨hxi, hyi⟩
      refine ⟨T, _, rfl, SqT.of upd_same, rfl, _, _, rfl, _, _, rfl, _, _, rfl, rfl, ?_⟩
      have sm4 := sm.trans sT
      have ra4 : RuleAt (upd H3 T (.tup [vr', .int xi, .int yi])) vr' r := ra.kp (Kp.of sm4)
      have hD4 := sT _ _ hD3
      generalize (upd H3 T (.tup [vr', .int xi, .int yi])) = H4 at *
      obtain ⟨t, wt', gt, rfl, ht, _, ⟨gp, hgp, hg⟩⟩ := ra
      have ht4 : H4 t = some (.tup [.str "each", .int r.e, .int r.a, .ref wt', .ref gt, moV r.m]) := sm4 _ _ ht
      have hgp4 := sm4 _ _ hgp
      refine ⟨_, rfl, t, _, 4, _, rfl, rfl, SqT.of ht4, atI_nat (j := 4) rfl, gt, rfl, ⟨_, SqT.of hgp4⟩, ?_⟩
      refine for_tup (K := K) (a := gt) (xs := gp) (fun j σ H' => ∃ v8 v9 : Option V, σ = [some (.ref a), some (.ref o), some (.ref x), some (.ref y), some (.ref D), some (.ref t), some (.int xi), some (.int yi), v8, v9] ∧ Same H H' ∧ H' D = some (.lst (((r.gs.take j).foldl (gStep outs r xi yi) (gAll outs ((rs.zip (xs.zip ys)).take i))).map V.int)))
        ⟨v8, v9, rfl, sm4, hD4⟩ (fun j σ H' _ ⟨_, _, _, sm', _⟩ => same_t sm' (SqT.of hgp)) ?_ ?_
      · rintro j vp σ H5 gj ⟨v8, v9, rfl, sm5, hD5⟩
        obtain ⟨p, hpj, b, rfl, hb⟩ := paired_get hg j _ gj
        have pin : p ∈ r.gs := List.mem_of_getElem? hpj
        have pout := gin p pin
        obtain ⟨p0, p3⟩ := okr.gv p pin
        have il := ixOf_lt pout
        refine ⟨b, _, rfl, SqT.of (sm5 _ _ hb), rfl, _, _, rfl, _, _, rfl, rfl, ?_⟩
        have ra5 : RuleAt H5 (.ref t) r := ⟨t, wt', gt, rfl, sm5 _ _ ht, by obtain ⟨t', w', g', e, h1, h2, h3⟩ := ra4; exact (by
          obtain ⟨wv, hw1, hw2⟩ : PairsAt H wt' r.ws := by assumption
          exact ⟨wv, sm5 _ _ hw1, paired_mono (fun _ _ => PairAt.kp (Kp.of sm5)) hw2⟩), ⟨gp, sm5 _ _ hgp, paired_mono (fun _ _ => PairAt.kp (Kp.of sm5)) hg⟩⟩
        refine ⟨_, rfl, _, rfl, .inl ⟨rfl, _, sm5.seq ho⟩, _, rfl, o, _, _, ixOf outs p.1, .str p.1, rfl, rfl, sm5.seq ho, rfl, strs_flat _, ?_, ?_, ?_, ?_⟩
        · rw [List.getElem?_map, ixOf_get pout]
          rfl
        · simp [eqV]
        · intro m z' hm hz'
          obtain ⟨s', hs', rfl⟩ := map_str_get hz'
          have := ixOf_no hm hs'
          simp [eqV, this]
        · have accl : ((r.gs.take j).foldl (gStep outs r xi yi) (gAll outs ((rs.zip (xs.zip ys)).take i))).length = outs.length := by rw [gFold_len, gAll_len]
          have gj' : (((r.gs.take j).foldl (gStep outs r xi yi) (gAll outs ((rs.zip (xs.zip ys)).take i))).map V.int)[ixOf outs p.1]? = some (.int ((((r.gs.take j).foldl (gStep outs r xi yi) (gAll outs ((rs.zip (xs.zip ys)).take i)))[ixOf outs p.1]?).getD 0)) := by
            rw [List.getElem?_map, List.getElem?_eq_getElem (by omega)]
            rfl
          refine ⟨D, _, ixOf outs p.1, _, rfl, rfl, SqL.of hD5, gj', ?_⟩
          refine ⟨_, rfl, _, rfl, _, rfl, _, r, yi, rfl, ra5, okr.oe, _, rfl, _, rfl, _, r, xi, rfl, ra5, okr.oe, _, _, rfl, rfl, _, _, rfl, rfl, .inl ⟨by omega, by omega⟩, _, _, rfl, rfl, ?_⟩
          refine ⟨D, _, _, ixOf outs p.1, rfl, rfl, hD5, Evl.ixN_nat (by rw [List.length_map]; omega), ?_⟩
          refine ⟨_, _, rfl, fun c oc ec => ?_, ?_⟩
          · rw [upd_ne (ne_of_none ec nD)]
            exact sm5 _ _ ec
          · rw [upd_same, List.take_add_one, hpj]
            rw [List.foldl_append]
            show some (HO.lst _) = some (HO.lst ((gStep outs r xi yi _ p).map V.int))
            unfold gStep addAt
            rw [List.map_set]
      · rintro σ H5 ⟨v8, v9, rfl, sm5, hD5⟩
        rw [hg.length, List.take_length] at hD5
        refine ⟨_, _, _, _, _, rfl, sm5, ?_⟩
        rw [hD5, List.take_add_one, hz]
        unfold gAll
        rw [List.foldl_append]
        rfl
    · rintro σ H3 ⟨v5, v6, v7, v8, v9, rfl, sm, hD3⟩
      rw [List.take_of_length_le (by rw [List.length_zip]; omega)] at hD3
      refine ⟨_, rfl, D, _, rfl, .inl ⟨SqL.of hD3, fun t nt => ?_⟩⟩
      exact q _ t (sm.trans (same_upd nt)) (sm.free nt) upd_same
end
end Hl

set_option Elab.async false
set_option linter.all false
set_option maxRecDepth 100000
set_option maxHeartbeats 4000000
namespace Hl
open PySem PySem.Spec PyProof.Rows L2
/-! the going along of _law_raw, as data -/
def risen (rs : List Rl) (n : Str) (s : List Int) : List Int := (rs.zip s).map fun t => t.2 + wt t.1 n
def there (rs : List Rl) (n : Str) (s : List Int) : List Int := (rs.zip (risen rs n s)).map fun t => dn t.1 t.2
def gn (outs : List Str) (rs : List Rl) (n : Str) (s : List Int) : List Int := gAll outs (rs.zip (s.zip (risen rs n s)))
abbrev Ent := Int × List Int
abbrev Tab := List (List Ent)
structure RowOk (rs : List Rl) (ins outs : List Str) (stands : List (List Int)) (s : List Int) (row : List Ent) : Prop where
  at_ : ∀ (j : Nat) (e : Ent), row[j]? = some e → ∃ (nm : Str) (t : Nat), ins[j]? = some nm ∧ e = ((t : Int), gn outs rs nm s) ∧ stands[t]? = some (there rs nm s)
structure RInv (rs : List Rl) (ins outs : List Str) (stands : List (List Int)) (rows : Tab) : Prop where
  z : stands[0]? = some (List.replicate rs.length 0)
  sl : ∀ s ∈ stands, s.length = rs.length
  sv : ∀ s ∈ stands, ∀ x ∈ s, 0 ≤ x ∧ x ≤ 10
  nd : stands.Nodup
  ro : ∀ (i : Nat) (row : List Ent), rows[i]? = some row → row.length = ins.length ∧ ∃ s, stands[i]? = some s ∧ RowOk rs ins outs stands s row
  og : ∀ k, 0 < k → k < stands.length → ∃ (i j : Nat) (s : List Int) (nm : Str), i < k ∧ stands[i]? = some s ∧ ins[j]? = some nm ∧ stands[k]? = some (there rs nm s)
theorem wt_ge {r : Rl} (h : OkR r) (n : Str) : 0 ≤ wt r n ∧ wt r n ≤ 9 := by
  have key : ∀ l : List (Str × Int), (∀ p ∈ l, 0 ≤ p.2 ∧ p.2 ≤ 3) → 0 ≤ ((l.filter fun p => decide (p.1 = n)).map (·.2)).sum ∧ ((l.filter fun p => decide (p.1 = n)).map (·.2)).sum ≤ 3 * (l.length : Int) := by
    intro l
    induction l with
    | nil =>
      intro _
      exact ⟨Int.le_refl _, Int.le_refl _⟩
    | cons p l ih =>
      intro hp
      obtain ⟨a, b⟩ := ih fun q hq => hp q (List.mem_cons_of_mem _ hq)
      obtain ⟨c, d⟩ := hp p List.mem_cons_self
      rw [List.filter_cons]
      split
      · rw [List.map_cons, List.sum_cons, List.length_cons]
        omega
      · rw [List.length_cons]
        omega
  obtain ⟨a, b⟩ := key r.ws h.wv
  have := h.wl
  unfold wt
  omega
theorem risen_len {rs : List Rl} {n : Str} {s : List Int} (h : s.length = rs.length) : (risen rs n s).length = rs.length := by
  unfold risen
  rw [List.length_map, List.length_zip, h, Nat.min_self]
theorem there_len {rs : List Rl} {n : Str} {s : List Int} (h : s.length = rs.length) : (there rs n s).length = rs.length := by
  unfold there
  rw [List.length_map, List.length_zip, risen_len h, Nat.min_self]
theorem risen_get {rs : List Rl} {n : Str} {s : List Int} {i : Nat} {r : Rl} {x : Int} (hr : rs[i]? = some r) (hx : s[i]? = some x) : (risen rs n s)[i]? = some (x + wt r n) := by
  unfold risen
  rw [List.getElem?_map, show (rs.zip s)[i]? = some (r, x) from List.getElem?_zip_eq_some.mpr ⟨hr, hx⟩]
  rfl
theorem there_get {rs : List Rl} {n : Str} {s : List Int} {i : Nat} {r : Rl} {x : Int} (hr : rs[i]? = some r) (hx : s[i]? = some x) : (there rs n s)[i]? = some (dn r (x + wt r n)) := by
  unfold there
  rw [List.getElem?_map, show (rs.zip (risen rs n s))[i]? = some (r, x + wt r n) from List.getElem?_zip_eq_some.mpr ⟨hr, risen_get hr hx⟩]
  rfl
theorem there_val {rs : List Rl} {n : Str} {s : List Int} (ok : ∀ r ∈ rs, OkR r) (hl : s.length = rs.length) (hs : ∀ x ∈ s, 0 ≤ x ∧ x ≤ 10) : ∀ x ∈ there rs n s, 0 ≤ x ∧ x ≤ 10 := by
  intro y hy
  obtain ⟨i, hi, rfl⟩ := List.mem_iff_getElem.mp hy
  have h1 : i < rs.length := by rw [there_len hl] at hi; exact hi
  have hr := List.getElem?_eq_getElem h1
  have hx := List.getElem?_eq_getElem (show i < s.length by omega)
  have g := there_get (n := n) hr hx
  rw [List.getElem?_eq_getElem hi] at g
  rw [Option.some.inj g]
  have okr := ok _ (List.getElem_mem h1)
  obtain ⟨a, b⟩ := hs _ (List.getElem_mem (show i < s.length by omega))
  have w := wt_ge okr n
  exact ⟨down_ge okr.oe (by omega), down_le okr.oe (by omega)⟩
/-- the place of a list among lists -/
def plc (stands : List (List Int)) (s : List Int) : Nat := stands.findIdx fun t => decide (t = s)
theorem plc_lt {stands : List (List Int)} {s : List Int} (h : s ∈ stands) : plc stands s < stands.length := List.findIdx_lt_length_of_exists ⟨s, h, decide_eq_true rfl⟩
theorem plc_get {stands : List (List Int)} {s : List Int} (h : s ∈ stands) : stands[plc stands s]? = some s := by
  have hl := plc_lt h
  rw [List.getElem?_eq_getElem hl]
  have := List.findIdx_getElem (xs := stands) (p := fun t => decide (t = s)) (w := hl)
  exact congrArg some (of_decide_eq_true this)
theorem plc_no {stands : List (List Int)} {s t : List Int} {m : Nat} (h : m < plc stands s) (e : stands[m]? = some t) : t ≠ s := by
  obtain ⟨hl, rfl⟩ := List.getElem?_eq_some_iff.mp e
  have := List.not_of_lt_findIdx (xs := stands) (p := fun t => decide (t = s)) h
  intro z
  simp [z] at this
/-- one more stand, or none -/
def grown (stands : List (List Int)) (t : List Int) : List (List Int) := if t ∈ stands then stands else stands ++ [t]
theorem mem_grown (stands : List (List Int)) (t : List Int) : t ∈ grown stands t := by
  unfold grown
  split
  · assumption
  · simp
theorem grown_get {stands : List (List Int)} {t : List Int} {i : Nat} {s : List Int} (h : stands[i]? = some s) : (grown stands t)[i]? = some s := by
  unfold grown
  split
  · exact h
  · obtain ⟨hl, e⟩ := List.getElem?_eq_some_iff.mp h
    rw [List.getElem?_append_left hl]
    exact h
theorem grown_len (stands : List (List Int)) (t : List Int) : stands.length ≤ (grown stands t).length ∧ (grown stands t).length ≤ stands.length + 1 := by
  unfold grown
  split
  · omega
  · rw [List.length_append]
    simp
theorem RowOk.grow {rs : List Rl} {ins outs : List Str} {stands : List (List Int)} {s t : List Int} {row : List Ent} (h : RowOk rs ins outs stands s row) : RowOk rs ins outs (grown stands t) s row :=
  ⟨fun j e he => by
    obtain ⟨nm, k, h1, h2, h3⟩ := h.at_ j e he
    exact ⟨nm, k, h1, h2, grown_get h3⟩⟩
theorem RInv.grow {rs : List Rl} {ins outs : List Str} {stands : List (List Int)} {rows : Tab} (ok : ∀ r ∈ rs, OkR r) (h : RInv rs ins outs stands rows) {i j : Nat} {s : List Int} {nm : Str} (hs : stands[i]? = some s) (hn : ins[j]? = some nm) : RInv rs ins outs (grown stands (there rs nm s)) rows := by
  have sin : s ∈ stands := List.mem_of_getElem? hs
  have tl := there_len (n := nm) (h.sl s sin)
  have tv := there_val (n := nm) ok (h.sl s sin) (h.sv s sin)
  refine ⟨grown_get h.z, ?_, ?_, ?_, ?_, ?_⟩
  · intro u hu
    unfold grown at hu
    split at hu
    · exact h.sl u hu
    · rcases List.mem_append.mp hu with hu | hu
      · exact h.sl u hu
      · rw [List.mem_singleton.mp hu]
        exact tl
  · intro u hu
    unfold grown at hu
    split at hu
    · exact h.sv u hu
    · rcases List.mem_append.mp hu with hu | hu
      · exact h.sv u hu
      · rw [List.mem_singleton.mp hu]
        exact tv
  · unfold grown
    split
    · exact h.nd
    · rename_i hno
      rw [List.nodup_append]
      refine ⟨h.nd, by simp, fun a ha b hb e => ?_⟩
      rw [List.mem_singleton.mp hb] at e
      rw [e] at ha
      exact hno ha
  · intro k row hk
    obtain ⟨a, s', b, c⟩ := h.ro k row hk
    exact ⟨a, s', grown_get b, c.grow⟩
  · intro k k0 kl
    by_cases hk : k < stands.length
    · obtain ⟨i', j', s', nm', a, b, c, d⟩ := h.og k k0 hk
      exact ⟨i', j', s', nm', a, grown_get b, c, grown_get d⟩
    · have g := grown_len stands (there rs nm s)
      have ek : k = stands.length := by omega
      have il : i < stands.length := (List.getElem?_eq_some_iff.mp hs).1
      refine ⟨i, j, s, nm, by omega, grown_get hs, hn, ?_⟩
      unfold grown at kl ⊢
      split
      · rename_i hin
        rw [if_pos hin] at kl
        omega
      · rw [ek, List.getElem?_append_right (Nat.le_refl _), Nat.sub_self]
        rfl
theorem RInv.row {rs : List Rl} {ins outs : List Str} {stands : List (List Int)} {rows : Tab} (h : RInv rs ins outs stands rows) {s : List Int} {row : List Ent} (hs : stands[rows.length]? = some s) (hl : row.length = ins.length) (hr : RowOk rs ins outs stands s row) : RInv rs ins outs stands (rows ++ [row]) := by
  refine ⟨h.z, h.sl, h.sv, h.nd, ?_, h.og⟩
  intro i r hi
  by_cases hlt : i < rows.length
  · rw [List.getElem?_append_left hlt] at hi
    exact h.ro i r hi
  · have hl2 := (List.getElem?_eq_some_iff.mp hi).1
    rw [List.length_append, List.length_singleton] at hl2
    have e : i = rows.length := by omega
    rw [e, List.getElem?_append_right (Nat.le_refl _), Nat.sub_self] at hi
    cases Option.some.inj hi
    rw [e]
    exact ⟨hl, s, hs, hr⟩
theorem RInv.start (rs : List Rl) (ins outs : List Str) : RInv rs ins outs [List.replicate rs.length 0] [] := by
  refine ⟨rfl, ?_, ?_, by simp, ?_, ?_⟩
  · intro s hs
    rw [List.mem_singleton.mp hs, List.length_replicate]
  · intro s hs x hx
    rw [List.mem_singleton.mp hs] at hx
    rw [(List.mem_replicate.mp hx).2]
    decide
  · intro i row h
    cases h
  · intro k k0 kl
    rw [List.length_singleton] at kl
    omega
/-! stands as data for == -/
def stD (s : List Int) : PyData := .list (s.map PyData.int)
theorem ints_lay : ∀ s : List Int, PyData.canLayAll0 (s.map PyData.int) = true
  | [] => by simp [PyData.canLayAll0]
  | x :: s => by simp [PyData.canLayAll0, PyData.canLay0, ints_lay s]
theorem ints_depth : ∀ s : List Int, PyData.depthAll (s.map PyData.int) ≤ 1
  | [] => by simp [PyData.depthAll]
  | x :: s => by
    have := ints_depth s
    simp only [List.map_cons, PyData.depthAll, PyData.depth]
    omega
theorem stD_depth (s : List Int) : (stD s).depth ≤ 2 := by
  have := ints_depth s
  simp only [stD, PyData.depth]
  omega
theorem stD_lay (s : List Int) : (stD s).canLay0 = true := by
  simp only [stD, PyData.canLay0]
  exact ints_lay s
theorem stD_shaped (s : List Int) : SeqAt.shaped (stD s) = true := by
  have h := stD_depth s
  show ((stD s).canLay0 && decide ((stD s).depth ≤ 64)) = true
  rw [Bool.and_eq_true]
  exact ⟨stD_lay s, decide_eq_true (by omega)⟩
theorem stDs_lay : ∀ l : List (List Int), PyData.canLayAll0 (l.map stD) = true
  | [] => by simp [PyData.canLayAll0]
  | s :: l => by simp [PyData.canLayAll0, stD_lay s, stDs_lay l]
theorem stDs_depth : ∀ l : List (List Int), PyData.depthAll (l.map stD) ≤ 2
  | [] => by simp [PyData.depthAll]
  | s :: l => by
    have h1 := stDs_depth l
    have h2 := stD_depth s
    simp only [List.map_cons, PyData.depthAll]
    omega
theorem stDs_shaped (l : List (List Int)) : SeqAt.shaped (.list (l.map stD)) = true := by
  have h1 := stDs_depth l
  have h2 : PyData.depth (.list (l.map stD)) ≤ 64 := by
    simp only [PyData.depth]
    omega
  show (PyData.canLay0 (.list (l.map stD)) && decide (PyData.depth (.list (l.map stD)) ≤ 64)) = true
  rw [Bool.and_eq_true]
  exact ⟨by simp only [PyData.canLay0]; exact stDs_lay l, decide_eq_true h2⟩
theorem ints_eqv : ∀ a b : List Int, PyData.eqvAll (a.map PyData.int) (b.map PyData.int) = decide (a = b)
  | [], [] => by simp [PyData.eqvAll]
  | [], y :: b => by simp [PyData.eqvAll]
  | x :: a, [] => by simp [PyData.eqvAll]
  | x :: a, y :: b => by
    have ih := ints_eqv a b
    simp only [List.map_cons, PyData.eqvAll, PyData.eqv, ih]
    by_cases h : x = y
    · subst h
      simp
    · simp [h]
theorem stD_eqv (a b : List Int) : PyData.eqv (stD a) (stD b) = decide (a = b) := by
  simp only [stD, PyData.eqv]
  exact ints_eqv a b
theorem stDs_any (l : List (List Int)) (s : List Int) : ((l.map stD).any fun z => PyData.eqv z (stD s)) = decide (s ∈ l) := by
  rw [List.any_map]
  by_cases h : s ∈ l
  · rw [decide_eq_true h, List.any_eq_true]
    exact ⟨s, h, by show PyData.eqv (stD s) (stD s) = true; rw [stD_eqv]; exact decide_eq_true rfl⟩
  · rw [decide_eq_false h, List.any_eq_false]
    intro t ht
    show ¬ PyData.eqv (stD t) (stD s) = true
    rw [stD_eqv]
    intro z
    rw [of_decide_eq_true z] at ht
    exact h ht
end Hl

set_option Elab.async false
set_option linter.all false
set_option maxRecDepth 100000
set_option maxHeartbeats 4000000
namespace Hl
open PySem PySem.Spec PyProof.Rows L2
abbrev sRaw : Stmt := topS 29
theorem lc_zip {K : PySem.W.Frag} {a b : Addr} {xs ys : List V} {g : TG} {tt : TT} {te : TE} {vs : List Nat} {σ : L2.St} {H1 : Hp} {D : Addr} {Qd : Hp → Prop} (hl : xs.length = ys.length) (Pv : Nat → Hp → Prop) (h0 : Pv 0 (upd H1 D (.lst [])))
    (hq : ∀ i H, Pv i H → SqL K H a xs ∧ SqL K H b ys)
    (hs : ∀ (i : Nat) (x y : V) (T : Addr) (H : Hp), xs[i]? = some x → ys[i]? = some y → Pv i H → H T = none → g (.ref T) (wipe σ vs) (upd H T (.tup [x, y])) fun σ2 H2 => wipe σ2 vs = wipe σ vs ∧ tt σ2 H2 fun b H3 =>
      if b = true then te σ2 H3 fun y H4 => ∃ acc, H4 D = some (.lst acc) ∧ acc.length < sizeLine ∧ Pv (i + 1) (upd H4 D (.lst (acc ++ [y]))) else Pv (i + 1) H3) (hd : ∀ H, Pv xs.length H → Qd H) :
    ∃ W : Nat → Nat → Hp → Prop, (∃ m, W 0 m (upd H1 D (.lst []))) ∧ ∀ i m H, W i m H →
      ((Itz K a b).stop i H ∧ Qd H) ∨ ((Itz K a b).go i H ∧ ∃ Nx : Hp → Prop, (∀ H', Nx H' → ∃ m', m' < m ∧ W (i + 1) m' H') ∧ ∀ x H', (Itz K a b).yld i H x H' → g x (wipe σ vs) H' fun σ2 H2 => wipe σ2 vs = wipe σ vs ∧ tt σ2 H2 fun b H3 =>
        if b = true then te σ2 H3 fun y H4 => ∃ acc, H4 D = some (.lst acc) ∧ acc.length < sizeLine ∧ Nx (upd H4 D (.lst (acc ++ [y]))) else Nx H3) := by
  refine ⟨fun i m H => m = xs.length - i ∧ i ≤ xs.length ∧ Pv i H, ⟨xs.length, rfl, Nat.zero_le _, h0⟩, ?_⟩
  rintro i m H ⟨rfl, hi, p⟩
  obtain ⟨qx, qy⟩ := hq i H p
  by_cases hlt : i < xs.length
  · refine .inr ⟨⟨xs, ys, _, _, qx, qy, List.getElem?_eq_getElem hlt, List.getElem?_eq_getElem (show i < ys.length by omega)⟩, Pv (i + 1), fun H' p' => ⟨xs.length - (i + 1), by omega, rfl, hlt, p'⟩, ?_⟩
    rintro v H' ⟨T, x, y, rfl, hT, rfl, f1, f2⟩
    exact hs i x y T H (f1 _ qx) (f2 _ qy) p hT
  · have e : i = xs.length := by omega
    subst e
    exact .inl ⟨⟨xs, ys, qx, qy, .inl (Nat.le_refl _)⟩, hd H p⟩
theorem _root_.L2.Same.put {H H' : Hp} {D : Addr} {o : HO} (k : Same H H') (n : H D = none) : Same H (upd H' D o) := fun b x e => by
  rw [upd_ne (ne_of_none e n)]
  exact k _ _ e
theorem upd_self {H : Hp} {a : Addr} {o : HO} (h : H a = some o) : upd H a o = H := by
  funext b
  by_cases e : b = a
  · rw [e, upd_same, h]
  · rw [upd_ne e]
theorem paired_snoc {α β : Type} {R : α → β → Prop} {a : α} {b : β} {xs : List α} {ys : List β} (h : Paired R xs ys) (ab : R a b) : Paired R (xs ++ [a]) (ys ++ [b]) := Paired.snoc h ab
/-! heaps without some places -/
def st (L : List Addr) (H : Hp) : Hp := fun b => if b ∈ L then none else H b
theorem st_get {L : List Addr} {H : Hp} {b : Addr} (h : b ∉ L) : st L H b = H b := if_neg h
theorem st_in {L : List Addr} {H : Hp} {b : Addr} (h : b ∈ L) : st L H b = none := if_pos h
theorem st_same {L : List Addr} {H : Hp} : Same (st L H) H := fun b o e => by
  by_cases h : b ∈ L
  · rw [st_in h] at e
    cases e
  · rw [st_get h] at e
    exact e
theorem st_mono {L : List Addr} {H H' : Hp} (s : Same H H') : Same (st L H) (st L H') := fun b o e => by
  by_cases h : b ∈ L
  · rw [st_in h] at e
    cases e
  · rw [st_get h] at e ⊢
    exact s _ _ e
theorem st_upd {L : List Addr} {H : Hp} {b : Addr} {o : HO} (h : b ∈ L) : st L (upd H b o) = st L H := by
  funext c
  by_cases hc : c ∈ L
  · rw [st_in hc, st_in hc]
  · rw [st_get hc, st_get hc, upd_ne fun e => hc (by rw [e]; exact h)]
theorem st_new {L : List Addr} {H : Hp} {b : Addr} {o : HO} (h : H b = none) : Same (st L H) (st L (upd H b o)) := st_mono (same_upd h)
theorem st_sub {L : List Addr} {w : Addr} {H : Hp} : Same (st (w :: L) H) (st L H) := fun b o e => by
  by_cases h : b ∈ w :: L
  · rw [st_in h] at e
    cases e
  · rw [st_get h] at e
    rw [st_get fun z => h (List.mem_cons_of_mem _ z)]
    exact e
theorem st_cons {L : List Addr} {w : Addr} {H : Hp} {o : HO} (h : H w = none) : Same (st L H) (st (w :: L) (upd H w o)) := fun b x e => by
  by_cases hb : b ∈ L
  · rw [st_in hb] at e
    cases e
  · rw [st_get hb] at e
    have ne : b ≠ w := ne_of_none e h
    rw [st_get fun z => (List.mem_cons.mp z).elim ne hb, upd_ne ne]
    exact e
def IntsAt (H : Hp) (v : V) (s : List Int) : Prop := ∃ a, v = .ref a ∧ H a = some (.lst (s.map V.int))
def EntAt (H : Hp) (v : V) (e : Ent) : Prop := ∃ c t, v = .ref c ∧ H c = some (.tup [.int e.1, .ref t]) ∧ H t = some (.tup (e.2.map V.int))
def RowAt (H : Hp) (v : V) (row : List Ent) : Prop := ∃ a vs, v = .ref a ∧ H a = some (.lst vs) ∧ Paired (EntAt H) vs row
def TabAt (H : Hp) (a : Addr) (tab : Tab) : Prop := ∃ vs, H a = some (.lst vs) ∧ Paired (RowAt H) vs tab
section
variable {H H' : Hp}
theorem IntsAt.same {v : V} {s : List Int} (k : Same H H') (h : IntsAt H v s) : IntsAt H' v s := by
  obtain ⟨a, e, h⟩ := h
  exact ⟨a, e, k _ _ h⟩
theorem EntAt.same {v : V} {s : Ent} (k : Same H H') (h : EntAt H v s) : EntAt H' v s := by
  obtain ⟨a, t, e, h, h2⟩ := h
  exact ⟨a, t, e, k _ _ h, k _ _ h2⟩
theorem RowAt.same {v : V} {s : List Ent} (k : Same H H') (h : RowAt H v s) : RowAt H' v s := by
  obtain ⟨a, vs, e, h, h2⟩ := h
  exact ⟨a, vs, e, k _ _ h, paired_mono (fun _ _ => EntAt.same k) h2⟩
theorem TabAt.same {a : Addr} {s : Tab} (k : Same H H') (h : TabAt H a s) : TabAt H' a s := by
  obtain ⟨vs, h, h2⟩ := h
  exact ⟨vs, k _ _ h, paired_mono (fun _ _ => RowAt.same k) h2⟩
theorem ints_dp {K : PySem.W.Frag} : ∀ s : List Int, DpAll K H (s.map V.int) (s.map PyData.int)
  | [] => .nil
  | x :: s => .cons (.int x) (ints_dp s)
theorem IntsAt.dp {K : PySem.W.Frag} {v : V} {s : List Int} (h : IntsAt H v s) : Dp K H v (stD s) := by
  obtain ⟨a, rfl, h⟩ := h
  exact .lst (SqL.of h) (ints_dp s)
theorem stands_dp {K : PySem.W.Frag} : ∀ {sv : List V} {l : List (List Int)}, Paired (IntsAt H) sv l → DpAll K H sv (l.map stD)
  | _, _, .nil => .nil
  | _, _, .cons a r => .cons a.dp (stands_dp r)
end
section
variable {P : Program} {w : World} {K : PySem.W.Frag} {mg : Str → Option Value} {base : Heap}
theorem hu65_of {A : Around} {k : Nat} (hr : Room k A) : A.units + 65 < cLine := by
  have := hr.un
  omega
/-- the rules' list -/
def RulesAt (H : Hp) (a : Addr) (rs : List Rl) : Prop := ∃ vr, H a = some (.lst vr) ∧ Paired (RuleAt H) vr rs
def spRaw (K : PySem.W.Frag) : Sp := fun vs H Q _ => ∃ (a i o : Addr) (most : Nat) (rs : List Rl) (ins outs : List Str), vs = [.ref a, .ref i, .ref o, .int most] ∧ RulesAt H a rs ∧ SqL K H i (ins.map V.str) ∧ SqL K H o (outs.map V.str) ∧
  1 ≤ most ∧ most ≤ 100 ∧ ins.length ≤ 10 ∧ outs.length ≤ 10 ∧ rs.length ≤ 10 ∧ (∀ r ∈ rs, OkR r ∧ ∀ p ∈ r.gs, p.1 ∈ outs) ∧
  (∀ H', rs ≠ [] → Same H H' → Q .non H') ∧
  ∀ (H' : Hp) (t : Addr) (stands : List (List Int)) (rows : Tab), Same H H' → H t = none → TabAt H' t rows → RInv rs ins outs stands rows → rows.length = stands.length → stands.length ≤ most → Q (.ref t) H'
abbrev nmRaw : List Str := ["_law_rules", "_law_ins", "_law_outs", "_law_most", "_law_stands", "_law_rows", "_law_here", "_law_row", "_law_name", "_law_risen", "_law_there", "_law_rule_here", "_law_come"]
theorem scRa : FnScope nmRaw ["_law_rules", "_law_ins", "_law_outs", "_law_most"] (defScope sRaw) := ⟨rfl, rfl, rfl, by decide +kernel, rfl, by decide +kernel, by decide +kernel⟩
theorem ok_raw {f fW fD fG : Addr} {fd fdW fdD fdG : FuncData} {k : Nat} (F : Fun K "_law_raw" "_law_raw" sRaw f fd)
    (GW : FnOk P w K mg base CX0 k fW fdW ["_law_rule_here", "_law_name"] spWeight) (kW : PySem.W.keepIn K (.ref fW) = true) (bW : Binds K fdW ["_law_rule_here", "_law_name"] []) (gW : mg "_law_weight" = some (.ref fW))
    (GD : FnOk P w K mg base CX0 k fD fdD ["_law_rule_here", "_law_come"] spDown) (kD : PySem.W.keepIn K (.ref fD) = true) (bD : Binds K fdD ["_law_rule_here", "_law_come"] []) (gD : mg "_law_down" = some (.ref fD))
    (GG : FnOk P w K mg base CX0 k fG fdG ["_law_rules", "_law_outs", "_law_early", "_law_late"] (spGain K)) (kG : PySem.W.keepIn K (.ref fG) = true) (bG : Binds K fdG ["_law_rules", "_law_outs", "_law_early", "_law_late"] []) (gG : mg "_law_gain" = some (.ref fG)) (B : Bi mg) (J : Bj mg) :
    FnOk P w K mg base CX0 (k + 1) f fd ["_law_rules", "_law_ins", "_law_outs", "_law_most"] (spRaw K) := by
  refine F.ok scRa (fun vs H Q E h => ?_) (fun cdv A outer s H vs Q E hr h => ?_)
  · obtain ⟨a, i, o, most, rs, ins, outs, rfl, _⟩ := h
    rfl
  · obtain ⟨a, i, o, most, rs, ins, outs, rfl, ⟨vr, ha, hR⟩, hi, ho, m1, m100, li, lo, lr, ok, qN, q⟩ := h
    refine ⟨_, pss_cons (ps_par (i := 4) (j := 5) rfl scRa.nd rfl rfl (by decide) rfl rfl (pa_cons (pe_lst (pa_cons (pe_op op_rep (pe_lst (pa_cons pe_int pa_nil)) (pe_callB call_len_seq (by rfl) B.len PySem.boot_len (pa_cons (pv 0) pa_nil))) pa_nil)) (pa_cons (pe_lst pa_nil) pa_nil)) (by rfl))
      (pss_cons (ps_while PassesOwn.never (PW.pt (pw_and (pt_cmpR op_lt (pe_callB call_len_seq (by rfl) B.len PySem.boot_len (pa_cons (pv 5) pa_nil)) (pe_callB call_len_seq (by rfl) B.len PySem.boot_len (pa_cons (pv 4) pa_nil)) (nomark _)) (pw_and1 (pt_cmpR op_le (pe_callB call_len_seq (by rfl) B.len PySem.boot_len (pa_cons (pv 4) pa_nil)) (pv 3) (nomark _)))))
        (pss_cons (ps_par (i := 6) (j := 7) rfl scRa.nd rfl rfl (by decide) rfl rfl (pa_cons (pe_ix ix_list (pv 4) (pe_callB call_len_seq (by rfl) B.len PySem.boot_len (pa_cons (pv 5) pa_nil)) (fun _ _ => rfl)) (pa_cons (pe_lst pa_nil) pa_nil)) (by rfl))
        (pss_cons (ps_for PassesOwn.never rfl (pi_list (pv 1)) (pg_name (i := 8) scRa.nd rfl (.inr rfl))
          (pss_cons (ps_setLc (i := 9) (own := [("_law_rule_here", 11), ("_law_come", 12)]) (g := gTup K 2 (gCons (gName 11) (gCons (gName 12) gNil))) (tt := tYes) rfl scRa.nd rfl rfl (sw_true rfl rfl rfl (by decide +kernel)) (pi_zip (by rfl) J.zip (pa_cons (pv 0) (pa_cons (pv 6) pa_nil)))
              (blkOk_by (own := [("_law_rule_here", 11), ("_law_come", 12)]) (N := nmRaw) (sc := defScope sRaw) (by decide +kernel))
              (fun _ _ _ _ _ => pg_tup rfl (pgs_cons (pg_name (i := 11) scRa.nd rfl (Or.inl rfl)) (pgs_cons (pg_name (i := 12) scRa.nd rfl (Or.inl rfl)) pgs_nil))) (fun _ _ _ _ _ => pts_nil)
              (fun _ _ _ _ _ => pe_op op_add (pv 12) (pe_call GW hr (by rfl) gW kW bW .nil pass0 (pa_cons (pv 11) (pa_cons (pv 8) pa_nil)))))
          (pss_cons (ps_setLc (i := 10) (own := [("_law_rule_here", 11), ("_law_come", 12)]) (g := gTup K 2 (gCons (gName 11) (gCons (gName 12) gNil))) (tt := tYes) rfl scRa.nd rfl rfl (sw_true rfl rfl rfl (by decide +kernel)) (pi_zip (by rfl) J.zip (pa_cons (pv 0) (pa_cons (pv 9) pa_nil)))
              (blkOk_by (own := [("_law_rule_here", 11), ("_law_come", 12)]) (N := nmRaw) (sc := defScope sRaw) (by decide +kernel))
              (fun _ _ _ _ _ => pg_tup rfl (pgs_cons (pg_name (i := 11) scRa.nd rfl (Or.inl rfl)) (pgs_cons (pg_name (i := 12) scRa.nd rfl (Or.inl rfl)) pgs_nil))) (fun _ _ _ _ _ => pts_nil)
              (fun _ _ _ _ _ => pe_call GD hr (by rfl) gD kD bD .nil pass0 (pa_cons (pv 11) (pa_cons (pv 12) pa_nil))))
          (Evl.pss_cut (ps_if (pt_cmpR (op_notInD (hu65_of hr)) (pv 10) (pv 4) (by rfl)) (pss_one (ps_expr (pe_bm PySem.F.plainAttrs_list PySem.F.slot_list_append PySem.F.type_list_append mt_append (pv 4) (pa_cons (pv 10) pa_nil)))) pss_nil)
          (pss_one (ps_expr (pe_bm PySem.F.plainAttrs_list PySem.F.slot_list_append PySem.F.type_list_append mt_append (pv 7) (pa_cons (pe_tup (pa_cons (pe_bm PySem.F.plainAttrs_list PySem.F.slot_list_index PySem.F.type_list_index (mt_indexD (hu65_of hr)) (pv 4) (pa_cons (pv 10) pa_nil))
            (pa_cons (pe_call GG hr (by rfl) gG kG bG .nil pass0 (pa_cons (pv 0) (pa_cons (pv 2) (pa_cons (pv 6) (pa_cons (pv 9) pa_nil))))) pa_nil))) pa_nil))))))))
        (pss_one (ps_expr (pe_bm PySem.F.plainAttrs_list PySem.F.slot_list_append PySem.F.type_list_append mt_append (pv 5) (pa_cons (pv 7) pa_nil)))))))
      (pss_one (ps_ret (pe_ifExp (pt_cmpR op_le (pe_callB call_len_seq (by rfl) B.len PySem.boot_len (pa_cons (pv 4) pa_nil)) (pv 3) (nomark _)) (pv 5) pe_non)))), ?_⟩
    -- stands, rows
    refine ⟨(by show 1 ≤ sizeLine; decide), fun z nz => ?_⟩
    have s1 := same_upd (o := .lst [.int 0]) nz
    have lvr := hR.length
    refine ⟨_, rfl, a, _, rfl, .inl (SqL.of (s1 _ _ ha)), z, (vr.length : Int), _, rfl, rfl, upd_same, by omega, by omega, ?_, fun D0 n0 => ?_⟩
    · rw [Int.toNat_natCast]
      show 1 * vr.length ≤ sizeLine
      exact Nat.le_of_lt (small1000 (by omega))
    rw [Int.toNat_natCast, rep_one, lvr] at *
    have lvr' : vr.length = rs.length := hR.length
    have s2 := s1.trans (same_upd (o := .lst ((List.replicate rs.length (0 : Int)).map V.int)) n0)
    refine ⟨(by show 1 ≤ sizeLine; decide), fun S nS => ?_⟩
    have s3 := s2.trans (same_upd (o := .lst [.ref D0]) nS)
    refine ⟨Nat.zero_le _, fun R nR => ?_⟩
    have s4 := s3.trans (same_upd (o := .lst []) nR)
    have hS0 : H S = none := s2.free nS
    have hR0 : H R = none := s3.free nR
    have nRS : R ≠ S := ne_of_fresh (o := .lst [.ref D0]) upd_same nR
    refine ⟨_, _, rfl, ?_⟩
    have hD0 : (upd (upd (upd (upd H z (.lst [.int 0])) D0 (.lst ((List.replicate rs.length (0 : Int)).map V.int))) S (.lst [.ref D0])) R (.lst [])) D0 = some (.lst ((List.replicate rs.length (0 : Int)).map V.int)) :=
      (same_upd nR) _ _ ((same_upd nS) _ _ upd_same)
    have hS4 : (upd (upd (upd (upd H z (.lst [.int 0])) D0 (.lst ((List.replicate rs.length (0 : Int)).map V.int))) S (.lst [.ref D0])) R (.lst [])) S = some (.lst [.ref D0]) := (same_upd nR) _ _ upd_same
    have hR4 : (upd (upd (upd (upd H z (.lst [.int 0])) D0 (.lst ((List.replicate rs.length (0 : Int)).map V.int))) S (.lst [.ref D0])) R (.lst [])) R = some (.lst []) := upd_same
    have nD0S : D0 ≠ S := ne_of_none (o := .lst ((List.replicate rs.length (0 : Int)).map V.int)) upd_same nS
    have nD0R : D0 ≠ R := ne_of_none ((same_upd (o := .lst [.ref D0]) nS) D0 _ upd_same) nR
    generalize (upd (upd (upd (upd H z (.lst [.int 0])) D0 (.lst ((List.replicate rs.length (0 : Int)).map V.int))) S (.lst [.ref D0])) R (.lst [])) = H4 at *
    refine ⟨fun m σ H' => ∃ (stands : List (List Int)) (rows : Tab) (sv rv : List V) (v6 v7 v8 v9 v10 v11 v12 : Option V), σ = [some (.ref a), some (.ref i), some (.ref o), some (.int most), some (.ref S), some (.ref R), v6, v7, v8, v9, v10, v11, v12] ∧ Same H H' ∧
        H' S = some (.lst sv) ∧ Paired (IntsAt (st [S, R] H')) sv stands ∧ H' R = some (.lst rv) ∧ Paired (RowAt (st [S, R] H')) rv rows ∧ RInv rs ins outs stands rows ∧ rows.length ≤ stands.length ∧ stands.length ≤ most + ins.length + 1 ∧ m = most + 1 - rows.length,
      ⟨_, [List.replicate rs.length 0], [], _, _, none, none, none, none, none, none, none, rfl, s4, hS4, .cons ⟨D0, rfl, by rw [st_get (by simp [nD0S, nD0R])]; exact hD0⟩ .nil, hR4, .nil, RInv.start rs ins outs, Nat.zero_le _, by show 1 ≤ _; omega, rfl⟩, ?_⟩
    rintro m σ H5 ⟨stands, rows, sv, rv, v6, v7, v8, v9, v10, v11, v12, rfl, sm, hS, pS, hR5, pR, inv, lle, lmo, rfl⟩
    have lsv := pS.length
    have lrv := pR.length
    -- what follows the loop
    have fin : rows.length = stands.length ∨ most < stands.length → tRet (tIf (tTest (tOp (rI0 fun i j => .bl (decide (i ≤ j))) (tCB (fun xs H Q => ∃ p ys, xs = [.ref p] ∧ (SqL K H p ys ∨ SqT K H p ys) ∧ Q (.int ys.length) H) (tCons (tVar 4) tNil)) (tVar 3))) (tVar 5) (tC .non)) { nx := fun _ H' => Q .non H', rt := Q } [some (.ref a), some (.ref i), some (.ref o), some (.int most), some (.ref S), some (.ref R), v6, v7, v8, v9, v10, v11, v12] H5 := fun hend => by
      refine ⟨_, rfl, S, _, rfl, .inl (SqL.of hS), _, rfl, _, _, rfl, rfl, _, rfl, ite2 (fun e => ?_) (fun e => ?_)⟩
      · have h1 : (sv.length : Int) ≤ most := of_decide_eq_true e
        refine ⟨_, rfl, ?_⟩
        have hh : rows.length = stands.length := by
          rcases hend with h | h
          · exact h
          · omega
        refine q H5 R stands rows sm hR0 ⟨rv, hR5, paired_mono (fun _ _ => RowAt.same st_same) pR⟩ inv hh (by omega)
      · have h1 : ¬ (sv.length : Int) ≤ most := fun zz => e (decide_eq_true zz)
        refine qN H5 (fun e0 => ?_) sm
        have l2 : 2 ≤ stands.length := by omega
        have h0 := inv.sl _ (List.getElem_mem (show 0 < stands.length by omega))
        have h1 := inv.sl _ (List.getElem_mem (show 1 < stands.length by omega))
        rw [e0] at h0 h1
        have e01 : stands[0] = stands[1] := (List.length_eq_zero_iff.mp h0).trans (List.length_eq_zero_iff.mp h1).symm
        have := (List.getElem_inj inv.nd).mp e01
        omega
    refine ⟨_, rfl, R, _, rfl, .inl (SqL.of hR5), _, rfl, S, _, rfl, .inl (SqL.of hS), _, _, rfl, rfl, _, rfl, ite2 (fun e1 => ?_) (fun e1 => ?_)⟩
    · have hlt : (rv.length : Int) < sv.length := of_decide_eq_true e1
      refine ⟨_, rfl, S, _, rfl, .inl (SqL.of hS), _, rfl, _, _, rfl, rfl, _, rfl, ite2 (fun e2 => ?_) (fun e2 => ?_)⟩
      · have hle : (sv.length : Int) ≤ most := of_decide_eq_true e2
        have hn : rows.length < stands.length := by omega
        have hs0 : stands[rows.length]? = some stands[rows.length] := List.getElem?_eq_getElem hn
        generalize stands[rows.length] = s0 at hs0
        obtain ⟨vh, hvh, ah, rfl, hah⟩ := paired_get2 pS rows.length s0 hs0
        have sl0 : s0.length = rs.length := inv.sl s0 (List.mem_of_getElem? hs0)
        refine ⟨fun σ' H' => ∃ (stands : List (List Int)) (rows' : Tab) (sv rv : List V) (v6 v7 v8 v9 v10 v11 v12 : Option V), σ' = [some (.ref a), some (.ref i), some (.ref o), some (.int most), some (.ref S), some (.ref R), v6, v7, v8, v9, v10, v11, v12] ∧ Same H H' ∧
            H' S = some (.lst sv) ∧ Paired (IntsAt (st [S, R] H')) sv stands ∧ H' R = some (.lst rv) ∧ Paired (RowAt (st [S, R] H')) rv rows' ∧ RInv rs ins outs stands rows' ∧ rows'.length ≤ stands.length ∧ stands.length ≤ most + ins.length + 1 ∧ rows'.length = rows.length + 1,
          fun σ' H' ⟨st', ro', b1, b2, c6, c7, c8, c9, c10, c11, c12, d1, d2, d3, d4, d5, d6, d7, d8, d9, d10⟩ => ⟨most + 1 - ro'.length, by omega, st', ro', b1, b2, c6, c7, c8, c9, c10, c11, c12, d1, d2, d3, d4, d5, d6, d7, d8, d9, rfl⟩, ?_⟩
        refine ⟨_, rfl, _, rfl, R, _, rfl, .inl (SqL.of hR5), S, _, _, _, rfl, rfl, SqL.of hS, at_of (j := rows.length) (by rw [lrv]) hvh, Nat.zero_le _, fun W nW => ?_⟩
        have nW0 : H W = none := sm.free nW
        have nWS : W ≠ S := ne_of_fresh hS nW
        have nWR : W ≠ R := ne_of_fresh hR5 nW
        have stW : Same (st [S, R] H5) (st [W, S, R] (upd H5 W (.lst []))) := st_cons nW
        refine ⟨_, _, rfl, ?_⟩
        refine ⟨_, rfl, i, rfl, ⟨_, (sm.put nW0).seq hi⟩, for_list (K := K) (a := i) (xs := ins.map V.str) (fun j σ H' => ∃ (stands' : List (List Int)) (sv' cv : List V) (cur : List Ent) (v8 v9 v10 v11 v12 : Option V), σ = [some (.ref a), some (.ref i), some (.ref o), some (.int most), some (.ref S), some (.ref R), some (.ref ah), some (.ref W), v8, v9, v10, v11, v12] ∧ Same H H' ∧
            H' S = some (.lst sv') ∧ Paired (IntsAt (st [W, S, R] H')) sv' stands' ∧ H' R = some (.lst rv) ∧ Paired (RowAt (st [W, S, R] H')) rv rows ∧ H' W = some (.lst cv) ∧ Paired (EntAt (st [W, S, R] H')) cv cur ∧ RInv rs ins outs stands' rows ∧ stands'[rows.length]? = some s0 ∧ cur.length = j ∧ RowOk rs ins outs stands' s0 cur ∧ stands'.length ≤ stands.length + j ∧ st [W, S, R] H' ah = some (.lst (s0.map V.int)))
          ⟨stands, sv, [], [], v8, v9, v10, v11, v12, rfl, sm.put nW0, by rw [upd_ne nWS.symm]; exact hS, paired_mono (fun _ _ => IntsAt.same stW) pS, by rw [upd_ne nWR.symm]; exact hR5, paired_mono (fun _ _ => RowAt.same stW) pR, upd_same, .nil, inv, hs0, rfl, ⟨fun j e he => by cases he⟩, by omega, stW _ _ hah⟩
          (fun j σ H' _ ⟨_, _, _, _, _, _, _, _, _, _, sm', _⟩ => sm'.seq hi) ?_ ?_⟩
        · rintro j vn σ H7 gn' ⟨stands', sv', cv, cur, w8, w9, w10, w11, w12, rfl, sm7, hS7, pS7, hR7, pR7, hW7, pW7, inv7, hs7, lc7, ro7, lm7, hah7⟩
          obtain ⟨nm, hnm, rfl⟩ := map_str_get gn'
          have hjl : j < ins.length := (List.getElem?_eq_some_iff.mp hnm).1
          have ah7 : H7 ah = some (.lst (s0.map V.int)) := st_same _ _ hah7
          -- risen
          refine ⟨_, rfl, _, rfl, a, ah, vr, _, rfl, SqL.of (sm7 _ _ ha), SqL.of ah7, fun D1 n1 => ?_⟩
          have s7a := same_upd (o := .lst []) n1
          refine lc_zip (K := K) (a := a) (b := ah) (xs := vr) (ys := s0.map V.int) (by rw [List.length_map, sl0, lvr']) (fun t H' => Same H7 H' ∧ H' D1 = some (.lst (((risen rs nm s0).take t).map V.int))) ⟨s7a, upd_same⟩ (fun t H' ⟨sm', _⟩ => ⟨SqL.of (sm' _ _ (sm7 _ _ ha)), SqL.of (sm' _ _ ah7)⟩) ?_ ?_
          · rintro t v1 v2 T H8 g1 g2 ⟨sm8, hD8⟩ nT
            obtain ⟨r, hr1, ra⟩ := paired_get hR t _ g1
            obtain ⟨x, hx1, rfl⟩ := map_int_get g2
            have okr := (ok r (List.mem_of_getElem? hr1)).1
            have sT := same_upd (o := .tup [v1, .int x]) nT
            have ra8 : RuleAt (upd H8 T (.tup [v1, .int x])) v1 r := ra.kp (Kp.of (sm7.trans (sm8.trans sT)))
            refine ⟨T, _, rfl, SqT.of upd_same, rfl, _, _, rfl, _, _, rfl, rfl, ?_⟩
            refine ⟨rfl, ?_⟩
            refine ⟨_, rfl, _, rfl, _, rfl, _, r, nm, rfl, ra8, okr.wl, fun H9 s9 => ?_⟩
            refine ⟨_, _, rfl, rfl, _, s9 _ _ (sT _ _ hD8), ?_, ?_, ?_⟩
            · rw [List.length_map, List.length_take]
              exact small1000 (Nat.le_trans (Nat.min_le_right _ _) (by rw [risen_len sl0]; omega))
            · exact ((sm8.trans sT).trans s9).put n1
            · rw [upd_same, List.take_add_one, risen_get hr1 hx1, List.map_append]
              rfl
          · rintro H8 ⟨sm8, hD8⟩
            rw [lvr', List.take_of_length_le (by rw [risen_len sl0]; exact Nat.le_refl _)] at hD8
            have sm78 := sm7.trans sm8
            -- there
            refine ⟨_, rfl, _, rfl, a, D1, vr, _, rfl, SqL.of (sm78 _ _ ha), SqL.of hD8, fun D2 n2 => ?_⟩
            have s8a := same_upd (o := .lst []) n2
            refine lc_zip (K := K) (a := a) (b := D1) (xs := vr) (ys := (risen rs nm s0).map V.int) (by rw [List.length_map, risen_len sl0, lvr']) (fun t H' => Same H8 H' ∧ H' D2 = some (.lst (((there rs nm s0).take t).map V.int))) ⟨s8a, upd_same⟩ (fun t H' ⟨sm', _⟩ => ⟨SqL.of (sm' _ _ (sm78 _ _ ha)), SqL.of (sm' _ _ hD8)⟩) ?_ ?_
            · rintro t v1 v2 T H9 g1 g2 ⟨sm9, hD9⟩ nT
              obtain ⟨r, hr1, ra⟩ := paired_get hR t _ g1
              obtain ⟨y, hy1, rfl⟩ := map_int_get g2
              have okr := (ok r (List.mem_of_getElem? hr1)).1
              have sT := same_upd (o := .tup [v1, .int y]) nT
              have ra8 : RuleAt (upd H9 T (.tup [v1, .int y])) v1 r := ra.kp (Kp.of (sm78.trans (sm9.trans sT)))
              have hy2 : (there rs nm s0)[t]? = some (dn r y) := by
                unfold there
                rw [List.getElem?_map, show (rs.zip (risen rs nm s0))[t]? = some (r, y) from List.getElem?_zip_eq_some.mpr ⟨hr1, hy1⟩]
                rfl
              refine ⟨T, _, rfl, SqT.of upd_same, rfl, _, _, rfl, _, _, rfl, rfl, ?_⟩
              refine ⟨rfl, ?_⟩
              refine ⟨_, rfl, _, rfl, _, r, y, rfl, ra8, okr.oe, _, sT _ _ hD9, ?_, ?_, ?_⟩
              · rw [List.length_map, List.length_take]
                exact small1000 (Nat.le_trans (Nat.min_le_right _ _) (by rw [there_len sl0]; omega))
              · exact (sm9.trans sT).put n2
              · rw [upd_same, List.take_add_one, hy2, List.map_append]
                rfl
            · rintro H9 ⟨sm9, hD9⟩
              rw [lvr', List.take_of_length_le (by rw [there_len sl0]; exact Nat.le_refl _)] at hD9
              have k79 := sm8.trans sm9
              have k79s : Same (st [W, S, R] H7) (st [W, S, R] H9) := st_mono k79
              have sm79 := sm7.trans k79
              have pS9 := paired_mono (fun _ _ => IntsAt.same k79s) pS7
              have pR9 := paired_mono (fun _ _ => RowAt.same k79s) pR7
              have pW9 := paired_mono (fun _ _ => EntAt.same k79s) pW7
              have hS9 := k79 _ _ hS7
              have hR9 := k79 _ _ hR7
              have hW9 := k79 _ _ hW7
              have nD2S : D2 ≠ S := ne_of_fresh (sm8 _ _ hS7) n2
              have nD2R : D2 ≠ R := ne_of_fresh (sm8 _ _ hR7) n2
              have nD2W : D2 ≠ W := ne_of_fresh (sm8 _ _ hW7) n2
              have hD9s : st [W, S, R] H9 D2 = some (.lst ((there rs nm s0).map V.int)) := by
                rw [st_get (by simp [nD2S, nD2R, nD2W])]
                exact hD9
              have lsv9 := pS9.length
              -- the ways meet
              refine ⟨fun σ' H' => σ' = [some (.ref a), some (.ref i), some (.ref o), some (.int most), some (.ref S), some (.ref R), some (.ref ah), some (.ref W), some (.str nm), some (.ref D1), some (.ref D2), w11, w12] ∧ ∃ sv'', H' = upd H9 S (.lst sv'') ∧ Paired (IntsAt (st [W, S, R] H9)) sv'' (grown stands' (there rs nm s0)), ?_, ?_⟩
              · refine ⟨_, rfl, _, rfl, stD (there rs nm s0), stands'.map stD, IntsAt.dp ⟨D2, rfl, hD9⟩, .lst (SqL.of hS9) (stands_dp (paired_mono (fun _ _ => IntsAt.same st_same) pS9)), stD_shaped _, stDs_shaped _, _, rfl, ?_⟩
                rw [stDs_any]
                refine ite2 (fun e => ?_) (fun e => ?_)
                · have hno : there rs nm s0 ∉ stands' := fun zz => by
                    rw [decide_eq_true zz] at e
                    cases e
                  refine ⟨_, rfl, .inl ⟨rfl, _, SqL.of hS9⟩, _, rfl, S, _, _, rfl, rfl, hS9, small1000 (by omega), ?_⟩
                  refine ⟨rfl, _, rfl, ?_⟩
                  unfold grown
                  rw [if_neg hno]
                  exact paired_snoc pS9 ⟨D2, rfl, hD9s⟩
                · have hin : there rs nm s0 ∈ stands' := by
                    by_cases zz : there rs nm s0 ∈ stands'
                    · exact zz
                    · exact absurd (by rw [decide_eq_false zz]; rfl) e
                  refine ⟨rfl, sv', (upd_self hS9).symm, ?_⟩
                  unfold grown
                  rw [if_pos hin]
                  exact pS9
              · rintro σ' H'' ⟨rfl, sv'', rfl, pS10⟩
                have sm10 := sm79.put (o := .lst sv'') hS0
                have stq : st [W, S, R] (upd H9 S (.lst sv'')) = st [W, S, R] H9 := st_upd (by simp)
                have hS10 : (upd H9 S (.lst sv'')) S = some (.lst sv'') := upd_same
                have hR10 : (upd H9 S (.lst sv'')) R = some (.lst rv) := by rw [upd_ne nRS]; exact hR9
                have hW10 : (upd H9 S (.lst sv'')) W = some (.lst cv) := by rw [upd_ne nWS]; exact hW9
                have hD10 : (upd H9 S (.lst sv'')) D2 = some (.lst ((there rs nm s0).map V.int)) := by rw [upd_ne nD2S]; exact hD9
                have nD1S : D1 ≠ S := ne_of_fresh hS7 n1
                have nahS : ah ≠ S := fun e => by
                  rw [e, st_in (by simp)] at hah7
                  cases hah7
                have hD110 : (upd H9 S (.lst sv'')) D1 = some (.lst ((risen rs nm s0).map V.int)) := by rw [upd_ne nD1S]; exact sm9 _ _ hD8
                have hah10 : (upd H9 S (.lst sv'')) ah = some (.lst (s0.map V.int)) := by rw [upd_ne nahS]; exact k79 _ _ ah7
                rw [← stq] at pS10 pR9 pW9
                have hah10s : st [W, S, R] (upd H9 S (.lst sv'')) ah = some (.lst (s0.map V.int)) := by
                  rw [stq]
                  exact k79s _ _ hah7
                generalize upd H9 S (.lst sv'') = G at *
                have inv8 := inv7.grow (fun r hr => (ok r hr).1) hs7 hnm
                have thin := mem_grown stands' (there rs nm s0)
                have gl := grown_len stands' (there rs nm s0)
                refine ⟨_, rfl, .inl ⟨rfl, _, SqL.of hW10⟩, ?_⟩
                refine ⟨_, rfl, .inl ⟨rfl, _, SqL.of hS10⟩, _, rfl, S, _, stD (there rs nm s0), (grown stands' (there rs nm s0)).map stD, plc (grown stands' (there rs nm s0)) (there rs nm s0), stD (there rs nm s0), rfl, rfl, .lst (SqL.of hS10) (stands_dp (paired_mono (fun _ _ => IntsAt.same st_same) pS10)), IntsAt.dp ⟨D2, rfl, hD10⟩, stDs_shaped _, stD_shaped _, ?_, ?_, ?_, ?_⟩
                · rw [List.getElem?_map, plc_get thin]
                  rfl
                · rw [stD_eqv]
                  exact decide_eq_true rfl
                · intro m z' hm hz'
                  rw [List.getElem?_map] at hz'
                  cases eq : (grown stands' (there rs nm s0))[m]? with
                  | none =>
                    rw [eq] at hz'
                    cases hz'
                  | some t =>
                    rw [eq] at hz'
                    cases Option.some.inj hz'
                    rw [stD_eqv]
                    exact decide_eq_false (plc_no hm eq)
                · refine ⟨_, rfl, _, rfl, _, rfl, _, rfl, a, o, ah, D1, vr, rs, outs, s0, risen rs nm s0, rfl, sm10 _ _ ha, paired_mono (fun _ _ => RuleAt.kp (Kp.of sm10)) hR, sm10.seq ho, SqL.of hah10, SqL.of hD110, sl0, risen_len sl0, by omega, ok, fun G2 t sm2 nt ht => ?_⟩
                  refine ⟨(by show 2 ≤ sizeLine; decide), fun T nT => ?_⟩
                  have sT := same_upd (o := .tup [.int (plc (grown stands' (there rs nm s0)) (there rs nm s0)), .ref t]) nT
                  have k2T := sm2.trans sT
                  have hWT := k2T _ _ hW10
                  have hST := k2T _ _ hS10
                  have hRT := k2T _ _ hR10
                  have ktS : Same (st [W, S, R] G) (st [W, S, R] (upd G2 T (.tup [.int (plc (grown stands' (there rs nm s0)) (there rs nm s0)), .ref t]))) := st_mono k2T
                  have nTS : T ≠ S := ne_of_fresh (sm2 _ _ hS10) nT
                  have nTR : T ≠ R := ne_of_fresh (sm2 _ _ hR10) nT
                  have nTW : T ≠ W := ne_of_fresh (sm2 _ _ hW10) nT
                  have ntS : t ≠ S := ne_of_fresh hS10 nt
                  have ntR : t ≠ R := ne_of_fresh hR10 nt
                  have ntW : t ≠ W := ne_of_fresh hW10 nt
                  have lcv := pW9.length
                  refine ⟨W, _, _, rfl, rfl, hWT, small1000 (by omega), ?_⟩
                  refine ⟨grown stands' (there rs nm s0), sv'', cv ++ [.ref T], cur ++ [((plc (grown stands' (there rs nm s0)) (there rs nm s0) : Int), gn outs rs nm s0)], _, _, _, _, _, rfl, (sm10.trans k2T).put nW0, ?_, ?_, ?_, ?_, upd_same, ?_, inv8, grown_get hs7, ?_, ?_, ?_, ?_⟩
                  · rw [upd_ne nWS.symm]
                    exact hST
                  · rw [st_upd (by simp)]
                    exact paired_mono (fun _ _ => IntsAt.same ktS) pS10
                  · rw [upd_ne nWR.symm]
                    exact hRT
                  · rw [st_upd (by simp)]
                    exact paired_mono (fun _ _ => RowAt.same ktS) pR9
                  · rw [st_upd (by simp)]
                    refine paired_snoc (paired_mono (fun _ _ => EntAt.same ktS) pW9) ⟨T, t, rfl, ?_, ?_⟩
                    · rw [st_get (by simp [nTS, nTR, nTW])]
                      exact upd_same
                    · rw [st_get (by simp [ntS, ntR, ntW])]
                      exact sT _ _ ht
                  · rw [List.length_append, lc7]
                    rfl
                  · refine ⟨fun j' e he => ?_⟩
                    by_cases hlt : j' < cur.length
                    · rw [List.getElem?_append_left hlt] at he
                      exact (ro7.grow).at_ j' e he
                    · have hl2 := (List.getElem?_eq_some_iff.mp he).1
                      rw [List.length_append, List.length_singleton] at hl2
                      have ej : j' = cur.length := by omega
                      rw [ej, List.getElem?_append_right (Nat.le_refl _), Nat.sub_self] at he
                      cases Option.some.inj he
                      rw [ej, lc7]
                      exact ⟨nm, _, hnm, rfl, plc_get thin⟩
                  · omega
                  · rw [st_upd (by simp)]
                    exact ktS _ _ hah10s
        · rintro σ H7 ⟨stands', sv', cv, cur, w8, w9, w10, w11, w12, rfl, sm7, hS7, pS7, hR7, pR7, hW7, pW7, inv7, hs7, lc7, ro7, lm7, hah7⟩
          rw [List.length_map] at lc7 lm7
          have lrv7 := pR7.length
          refine ⟨_, rfl, .inl ⟨rfl, _, SqL.of hR7⟩, _, rfl, R, _, _, rfl, rfl, hR7, small1000 (by omega), ?_⟩
          have sub : Same (st [W, S, R] H7) (st [S, R] (upd H7 R (.lst (rv ++ [.ref W])))) := by
            rw [st_upd (by simp)]
            exact st_sub
          have stl := (List.getElem?_eq_some_iff.mp hs7).1
          refine ⟨stands', rows ++ [cur], sv', rv ++ [.ref W], _, _, _, _, _, _, _, rfl, sm7.put hR0, by rw [upd_ne nRS.symm]; exact hS7, paired_mono (fun _ _ => IntsAt.same sub) pS7, upd_same,
            paired_snoc (paired_mono (fun _ _ => RowAt.same sub) pR7) ⟨W, cv, rfl, ?_, paired_mono (fun _ _ => EntAt.same sub) pW7⟩, inv7.row hs7 lc7 ro7, ?_, by omega, ?_⟩
          · rw [st_upd (by simp), st_get (by simp [nWS, nWR])]
            exact hW7
          · rw [List.length_append, List.length_singleton]
            omega
          · rw [List.length_append]
            rfl
      · have hle : ¬ (sv.length : Int) ≤ most := fun zz => e2 (decide_eq_true zz)
        exact fin (.inr (by omega))
    · have hlt : ¬ (rv.length : Int) < sv.length := fun zz => e1 (decide_eq_true zz)
      exact iteF (fin (.inl (by omega)))
end
end Hl

set_option Elab.async false
set_option linter.all false
set_option maxRecDepth 100000
set_option maxHeartbeats 4000000
namespace Hl
open PySem PySem.Spec PyProof.Rows L2
abbrev sNames : Stmt := topS 22
abbrev sShuf : Stmt := topS 23
def tails : List Str := ["", "b", "zz", "xy", "mmmmm", "bbbbb"]
def abc : Str := "abcdefghijklmnopqrstuvwxyz"
def nameF (t : Str) (a s k : Nat) : Str := (cutS t none (some (a : Int)) ++ ⟨#[(abc.cps.toList[(s + 5 * k) % 26]?).getD 0]⟩) ++ cutS t (some (a : Int)) none
def goodB (s : Str) : Bool := decide (1 ≤ s.length) && (decide (s.length ≤ 6) && s.cps.toList.all fun c => decide (97 ≤ c) && decide (c ≤ 122))
def unlikeB : List Str → Bool
  | [] => true
  | s :: r => !(r.contains s) && unlikeB r
def namesOk (t : Str) (a s : Nat) : Bool := ((List.range 4).map (nameF t a s)).all goodB && unlikeB ((List.range 4).map (nameF t a s))
theorem names_all : (tails.all fun t => (List.range 6).all fun a => (List.range 26).all fun s => namesOk t a s) = true := by decide +kernel
theorem tails_len : (tails.all fun t => decide (t.length ≤ 5)) = true := by decide +kernel
theorem unlike_nodup : ∀ {l : List Str}, unlikeB l = true → l.Nodup
  | [], _ => List.nodup_nil
  | s :: r, h => by
    unfold unlikeB at h
    rw [Bool.and_eq_true] at h
    rw [List.nodup_cons]
    refine ⟨fun z => ?_, unlike_nodup h.2⟩
    have := h.1
    rw [List.contains_iff_mem.mpr z] at this
    cases this
structure Good (s : Str) : Prop where
  l1 : 1 ≤ s.length
  l6 : s.length ≤ 6
  az : ∀ c ∈ s.cps.toList, 97 ≤ c ∧ c ≤ 122
theorem good_of {s : Str} (h : goodB s = true) : Good s := by
  unfold goodB at h
  simp only [Bool.and_eq_true, decide_eq_true_eq, List.all_eq_true] at h
  exact ⟨h.1, h.2.1, h.2.2⟩
theorem names_good {t : Str} {a s m : Nat} (ht : t ∈ tails) (ha : a ≤ t.length) (hs : s < 26) (hm : m ≤ 4) : ((List.range m).map (nameF t a s)).Nodup ∧ ∀ n ∈ (List.range m).map (nameF t a s), Good n := by
  have l5 := of_decide_eq_true (List.all_eq_true.mp tails_len t ht)
  have h1 := List.all_eq_true.mp names_all t ht
  have h2 := List.all_eq_true.mp h1 a (List.mem_range.mpr (by omega))
  have h3 := List.all_eq_true.mp h2 s (List.mem_range.mpr hs)
  unfold namesOk at h3
  rw [Bool.and_eq_true] at h3
  have sub : ((List.range m).map (nameF t a s)).Sublist ((List.range 4).map (nameF t a s)) := List.Sublist.map _ (List.range_sublist.mpr hm)
  exact ⟨List.Nodup.sublist sub (unlike_nodup h3.2), fun n hn => good_of (List.all_eq_true.mp h3.1 n (sub.subset hn))⟩
theorem cutS_len (t : Str) (lo hi : Option Int) : (cutS t lo hi).length ≤ t.length := cutS_length t lo hi
theorem str_len_append (a b : Str) : (a ++ b).length = a.length + b.length := PySem.Str.length_append a b
section
variable {P : Program} {w : World} {K : PySem.W.Frag} {mg : Str → Option Value} {base : Heap}
def spNames : Sp := fun vs H Q _ => ∃ (p l : Addr) (m : Nat), vs = [.ref p, .int m] ∧ Deal H p l ∧ m ≤ 4 ∧ ∀ (H' : Hp) (q : Addr) (ns : List Str), Kp H H' → Deal H' p l → H q = none → H' q = some (.lst (ns.map V.str)) → ns.length = m → ns.Nodup → (∀ n ∈ ns, Good n) → Q (.ref q) H'
abbrev nmNa : List Str := ["_law_deal_here", "_law_many", "_law_tail", "_law_at", "_law_start", "_law_signs", "_law_k"]
theorem scNa : FnScope nmNa ["_law_deal_here", "_law_many"] (defScope sNames) := ⟨rfl, rfl, rfl, by decide +kernel, rfl, by decide +kernel, by decide +kernel⟩
theorem ok_names {f fK fO : Addr} {fd fdK fdO : FuncData} {k : Nat} (F : Fun K "_law_names" "_law_names" sNames f fd)
    (GK : FnOk P w K mg base CX0 k fK fdK ["_law_deal_here", "_law_many"] spPick) (kK : PySem.W.keepIn K (.ref fK) = true) (bK : Binds K fdK ["_law_deal_here", "_law_many"] []) (gK : mg "_law_pick" = some (.ref fK))
    (GO : FnOk P w K mg base CX0 k fO fdO ["_law_deal_here", "_law_some"] spOf) (kO : PySem.W.keepIn K (.ref fO) = true) (bO : Binds K fdO ["_law_deal_here", "_law_some"] []) (gO : mg "_law_of" = some (.ref fO)) (B : Bi mg) :
    FnOk P w K mg base CX0 (k + 1) f fd ["_law_deal_here", "_law_many"] spNames := by
  refine F.ok scNa (fun vs H Q E h => ?_) (fun cdv A outer s H vs Q E hr h => ?_)
  · obtain ⟨p, l, m, rfl, _⟩ := h
    rfl
  · obtain ⟨p, l, m, rfl, dl, m4, q⟩ := h
    refine ⟨_, pss_cons (ps_set (i := 2) scNa.nd rfl (.inr rfl) (pe_call GO hr (by rfl) gO kO bO .nil pass0 (pa_cons (pv 0) (pa_cons (pe_lst (pa_cons pe_str (pa_cons pe_str (pa_cons pe_str (pa_cons pe_str (pa_cons pe_str (pa_cons pe_str pa_nil))))))) pa_nil))))
      (pss_cons (ps_asg (pe_tup (pa_cons (pe_call GK hr (by rfl) gK kK bK .nil pass0 (pa_cons (pv 0) (pa_cons (pe_op op_add (pe_callB call_len_str (by rfl) B.len PySem.boot_len (pa_cons (pv 2) pa_nil)) pe_int) pa_nil))) (pa_cons (pe_call GK hr (by rfl) gK kK bK .nil pass0 (pa_cons (pv 0) (pa_cons pe_int pa_nil))) pa_nil)))
          (pg_tup rfl (pgs_cons (pg_name (i := 3) scNa.nd rfl (.inr rfl)) (pgs_cons (pg_name (i := 4) scNa.nd rfl (.inr rfl)) pgs_nil))))
      (pss_cons (ps_set (i := 5) scNa.nd rfl (.inr rfl) pe_str)
      (pss_one (ps_ret (pe_lc (own := [("_law_k", 6)]) (g := gName 6) (tt := tYes) rfl scNa.nd (pi_range1 (by rfl) B.rng (pa_cons (pv 1) pa_nil))
        (blkOk_by (own := [("_law_k", 6)]) (N := nmNa) (sc := defScope sNames) (by decide +kernel)) (fun _ _ _ _ _ => pg_name (i := 6) scNa.nd rfl (Or.inl rfl)) (fun _ _ _ _ _ => pts_nil)
        (fun _ _ _ _ _ => pe_op op_add_str (pe_op op_add_str (pe_slice sl_str (pv 2) po_none (po_some (pv 3))) (pe_ix ix_str (pv 5) (pe_op op_mod (pe_op op_add (pv 4) (pe_op op_mul pe_int (pv 6))) pe_int) (fun _ _ => rfl))) (pe_slice sl_str (pv 2) (po_some (pv 3)) po_none))))))), ?_⟩
    refine ⟨_, rfl, (by show 6 ≤ sizeLine; decide), fun c nc => ?_⟩
    have sc := same_upd (o := .lst (tails.map V.str)) nc
    refine ⟨p, l, c, tails.map V.str, rfl, dl.same sc, upd_same, nd_strs, by decide, by decide, fun H1 x hx kp1 dl1 => ?_⟩
    have k1 := (Kp.of sc).trans kp1
    obtain ⟨t, ht, rfl⟩ := List.mem_map.mp hx
    have l5 := of_decide_eq_true (List.all_eq_true.mp tails_len t ht)
    have szt : t.length ≤ sizeLine := Nat.le_of_lt (small1000 (by omega))
    refine ⟨_, rfl, _, rfl, t, rfl, szt, _, _, rfl, rfl, p, l, _, rfl, dl1, by omega, lg (b := 11) (by omega) (by decide) (by decide), fun H2 at' k2 dl2 a0 a1 => ?_⟩
    refine ⟨_, rfl, p, l, 26, rfl, dl2, by decide, lg (b := 11) (by decide) (by decide) (by decide), fun H3 st k3 dl3 b0 b1 => ?_⟩
    obtain ⟨a, rfl⟩ := Int.eq_ofNat_of_zero_le a0
    obtain ⟨sn, rfl⟩ := Int.eq_ofNat_of_zero_le b0
    refine ⟨(by show 2 ≤ sizeLine; decide), fun T nT => ?_⟩
    have sT := same_upd (o := .tup [.int a, .int sn]) nT
    refine ⟨T, _, rfl, SqT.of upd_same, rfl, _, _, rfl, _, _, rfl, rfl, ?_⟩
    have k4 := ((k1.trans k2).trans k3).trans (Kp.of sT)
    have dl4 := dl3.same sT
    generalize (upd H3 T (.tup [.int a, .int sn])) = H4 at *
    refine ⟨_, rfl, (m : Int), rfl, by omega, by omega, fun D nD => ?_⟩
    have sD := same_upd (o := .lst []) nD
    have szc : ∀ lo hi, (cutS t lo hi).length ≤ 1000 := fun lo hi => by
      have h1 := cutS_len t lo hi
      omega
    refine lc_range (lo := 0) (n := m) (fun i H' => Same H4 H' ∧ H' D = some (.lst (((List.range i).map (nameF t a sn)).map V.str))) ⟨sD, upd_same⟩ ?_ ?_
    · rintro i H5 hi ⟨sm, hD⟩
      refine ⟨rfl, ?_⟩
      have hix : (sn + 5 * i) % 26 < 26 := Nat.mod_lt _ (by decide)
      have hc : abc.cps.toList[(sn + 5 * i) % 26]? = some ((abc.cps.toList[(sn + 5 * i) % 26]?).getD 0) := by
        rw [List.getElem?_eq_getElem (show (sn + 5 * i) % 26 < abc.cps.toList.length from hix)]
        rfl
      refine ⟨_, rfl, _, rfl, _, rfl, t, rfl, szt, ?_⟩
      refine ⟨_, rfl, _, rfl, _, rfl, _, _, rfl, rfl, .inl ⟨by decide, by decide⟩, _, _, rfl, rfl, _, _, rfl, rfl, (by show (0 : Int) < 26; decide), abc, _, _, rfl, rfl, (by show 26 ≤ sizeLine; decide), (by show atI abc.cps.toList (((sn : Int) + 5 * (0 + (i : Int))) % 26) = _; rw [show ((sn : Int) + 5 * (0 + (i : Int))) % 26 = (((sn + 5 * i) % 26 : Nat) : Int) by omega]; exact atI_nat hc), _, _, rfl, rfl, ?_, ?_⟩
      · have := szc none (some (a : Int))
        exact Nat.le_of_lt (small1000 (by show _ + 1 ≤ 1000; have := cutS_len t none (some (a : Int)); omega))
      refine ⟨_, rfl, _, rfl, _, rfl, t, rfl, szt, _, _, rfl, rfl, ?_, ?_⟩
      · have h1 := cutS_len t none (some (a : Int))
        have h2 := cutS_len t (some (a : Int)) none
        refine Nat.le_of_lt (small1000 ?_)
        rw [str_len_append]
        show _ + 1 + _ ≤ 1000
        omega
      refine ⟨_, hD, ?_, sm.put nD, ?_⟩
      · rw [List.length_map, List.length_map, List.length_range]
        exact small1000 (by omega)
      · rw [upd_same, List.range_succ, List.map_append, List.map_append]
        rfl
    · rintro H5 ⟨sm, hD⟩
      obtain ⟨nd, gd⟩ := names_good (m := m) ht (show a ≤ t.length by omega) (show sn < 26 by omega) m4
      exact q H5 D _ (k4.trans (Kp.of sm)) (dl4.same sm) (k4.free _ nD) hD (by rw [List.length_map, List.length_range]) nd gd
/-! _law_shuffled -/
def spShuf : Sp := fun vs H Q _ => ∃ (p l a : Addr) (xs : List V), vs = [.ref p, .ref a] ∧ Deal H p l ∧ H a = some (.lst xs) ∧ (∀ v ∈ xs, ∀ r, v ≠ .ref r) ∧ xs.length ≤ 1000 ∧
  ∀ (H' : Hp) (q : Addr) (ys : List V), Kp H H' → Deal H' p l → H q = none → H' q = some (.lst ys) → ys.Perm xs → Q (.ref q) H'
theorem scSh : FnScope ["_law_deal_here", "_law_some", "_law_found", "_law_one"] ["_law_deal_here", "_law_some"] (defScope sShuf) := ⟨rfl, rfl, rfl, by decide +kernel, rfl, by decide +kernel, by decide +kernel⟩
theorem nd_plain {xs : List V} (h : ∀ v ∈ xs, ∀ r, v ≠ .ref r) : Nd (.lst xs) := nd_lst fun x r e a => h x (by rw [e]; exact List.mem_cons_self) a
theorem ok_shuf {f fK : Addr} {fd fdK : FuncData} {k : Nat} (F : Fun K "_law_shuffled" "_law_shuffled" sShuf f fd)
    (GK : FnOk P w K mg base CX0 k fK fdK ["_law_deal_here", "_law_many"] spPick) (kK : PySem.W.keepIn K (.ref fK) = true) (bK : Binds K fdK ["_law_deal_here", "_law_many"] []) (gK : mg "_law_pick" = some (.ref fK)) (B : Bi mg) :
    FnOk P w K mg base CX0 (k + 1) f fd ["_law_deal_here", "_law_some"] spShuf := by
  refine F.ok scSh (fun vs H Q E h => ?_) (fun cdv A outer s H vs Q E hr h => ?_)
  · obtain ⟨p, l, m, xs, rfl, _⟩ := h
    rfl
  · obtain ⟨p, l, a, xs, rfl, dl, ha, pl, lx, q⟩ := h
    refine ⟨_, pss_cons (ps_set (i := 2) scSh.nd rfl (.inl rfl) (pe_lst pa_nil))
      (pss_cons (ps_for PassesOwn.never rfl (pi_list (pv 1)) (pg_name (i := 3) scSh.nd rfl (.inl rfl))
        (pss_one (ps_expr (pe_bm PySem.F.plainAttrs_list PySem.F.slot_list_insert PySem.F.type_list_insert mt_insert (pv 2) (pa_cons (pe_call GK hr (by rfl) gK kK bK .nil pass0 (pa_cons (pv 0) (pa_cons (pe_op op_add (pe_callB call_len_seq (by rfl) B.len PySem.boot_len (pa_cons (pv 2) pa_nil)) pe_int) pa_nil))) (pa_cons (pv 3) pa_nil))))))
      (pss_one (ps_ret (pv 2)))), ?_⟩
    have nda := nd_plain pl
    refine ⟨Nat.zero_le _, fun D nD => ?_⟩
    have s1 := same_upd (o := .lst []) nD
    have nDp := dl.ne nD
    have nDl := dl.nl nD
    refine ⟨_, rfl, a, rfl, ⟨_, SqL.of (s1 _ _ ha)⟩, for_list (K := K) (a := a) (xs := xs) (fun i σ H' => ∃ (ys : List V) (v3 : Option V), σ = [some (.ref p), some (.ref a), some (.ref D), v3] ∧ Kp H H' ∧ Deal H' p l ∧ H' D = some (.lst ys) ∧ ys.Perm (xs.take i))
      ⟨[], none, rfl, Kp.of s1, dl.same s1, upd_same, by rw [List.take_zero]⟩ (fun i σ H' _ ⟨_, _, _, kp, _⟩ => SqL.of (kp.keep _ _ nda ha)) ?_ ?_⟩
    · rintro i x σ H1 hx ⟨ys, v3, rfl, kp, dl1, hD, pm⟩
      have ly : ys.length ≤ 1000 := by
        rw [pm.length_eq, List.length_take]
        omega
      have ply : ∀ v ∈ ys, ∀ r, v ≠ .ref r := fun v hv => pl v (List.mem_of_mem_take (pm.subset hv))
      refine ⟨_, rfl, .inl ⟨rfl, _, SqL.of hD⟩, ?_⟩
      refine ⟨_, rfl, _, rfl, D, _, rfl, .inl (SqL.of hD), _, _, rfl, rfl, p, l, _, rfl, dl1, by omega, lg (b := 11) (by omega) (by decide) (by decide), fun H2 r kp2 dl2 r0 r1 => ?_⟩
      have hD2 := kp2.keep _ _ (nd_plain ply) hD
      refine ⟨_, rfl, D, ys, r, x, rfl, rfl, hD2, small1000 ly, r0, by omega, ?_⟩
      refine ⟨ys.take r.toNat ++ [x] ++ ys.drop r.toNat, _, rfl, (kp.trans kp2).put nD, dl2.put nDp nDl, upd_same, ?_⟩
      rw [List.take_add_one, hx]
      refine List.Perm.trans ?_ (List.Perm.append_right _ pm)
      have e : ys.take r.toNat ++ [x] ++ ys.drop r.toNat = ys.take r.toNat ++ x :: ys.drop r.toNat := by simp
      rw [e]
      refine List.perm_middle.trans ?_
      rw [List.take_append_drop]
      exact (List.perm_append_singleton x ys).symm
    · rintro σ H1 ⟨ys, v3, rfl, kp, dl1, hD, pm⟩
      rw [List.take_length] at pm
      exact ⟨_, rfl, q H1 D ys kp dl1 nD hD pm⟩
end
end Hl

set_option Elab.async false
set_option linter.all false
set_option maxRecDepth 100000
set_option maxHeartbeats 4000000
namespace Hl
open PySem PySem.Spec PyProof.Rows L2
abbrev sRule : Stmt := topS 24
theorem strOk_good {s : Str} (h : Good s) : PyData.strOk s = true := by
  unfold PyData.strOk
  rw [← Array.all_toList]
  exact List.all_eq_true.mpr fun c hc => decide_eq_true (by have := h.az c hc; omega)
theorem strs_lay : ∀ s : List Str, (∀ n ∈ s, Good n) → PyData.canLayAll0 (s.map PyData.str) = true
  | [], _ => by simp [PyData.canLayAll0]
  | x :: s, h => by
    have h1 := strOk_good (h x List.mem_cons_self)
    have h2 := strs_lay s fun n hn => h n (List.mem_cons_of_mem _ hn)
    simp [PyData.canLayAll0, PyData.canLay0, h1, h2]
theorem strs_depth : ∀ s : List Str, PyData.depthAll (s.map PyData.str) ≤ 1
  | [] => by simp [PyData.depthAll]
  | x :: s => by
    have := strs_depth s
    simp only [List.map_cons, PyData.depthAll, PyData.depth]
    omega
theorem strs_shaped (s : List Str) (hg : ∀ n ∈ s, Good n) : SeqAt.shaped (.list (s.map PyData.str)) = true := by
  have h1 := strs_depth s
  have h2 : PyData.depth (.list (s.map PyData.str)) ≤ 64 := by
    simp only [PyData.depth]
    omega
  show (PyData.canLay0 (.list (s.map PyData.str)) && decide (PyData.depth (.list (s.map PyData.str)) ≤ 64)) = true
  rw [Bool.and_eq_true]
  exact ⟨by simp only [PyData.canLay0]; exact strs_lay s hg, decide_eq_true h2⟩
theorem strs_dp {K : PySem.W.Frag} {H : Hp} : ∀ s : List Str, DpAll K H (s.map V.str) (s.map PyData.str)
  | [] => .nil
  | x :: s => .cons (.str x) (strs_dp s)
theorem strs_eqv_nil (s : List Str) : PyData.eqv (.list (s.map PyData.str)) (.list []) = s.isEmpty := by
  cases s <;> simp [PyData.eqv, PyData.eqvAll]
theorem cut1 (xs : List V) : cutV xs none (some 1) = xs.take 1 := by
  unfold cutV
  rw [HT.sIx_none, show HT.sIx xs.length xs.length (some 1) = min 1 xs.length from HT.sIx_nat xs.length xs.length 1]
  cases xs with
  | nil => rfl
  | cons x r =>
    rw [show min 1 (x :: r).length = 1 by
      rw [List.length_cons]
      omega]
    rfl
theorem refs_of_pairs {H : Hp} : ∀ {vs : List V} {ps : List (Str × Int)}, Paired (PairAt H) vs ps → ∃ as : List Addr, vs = as.map V.ref
  | _, _, .nil => ⟨[], rfl⟩
  | _, _, .cons ⟨a, e, _⟩ r => by
    obtain ⟨as, h⟩ := refs_of_pairs r
    exact ⟨a :: as, by rw [e, h]; rfl⟩
theorem nd_pairs {H : Hp} {vs : List V} {ps : List (Str × Int)} (h : Paired (PairAt H) vs ps) : Nd (.lst vs) := by
  obtain ⟨as, rfl⟩ := refs_of_pairs h
  exact nd_refs
section
variable {P : Program} {w : World} {K : PySem.W.Frag} {mg : Str → Option Value} {base : Heap}
def spRule : Sp := fun vs H Q _ => ∃ (p l i o : Addr) (ins outs : List Str), vs = [.ref p, .ref i, .ref o] ∧ Deal H p l ∧ H i = some (.lst (ins.map V.str)) ∧ H o = some (.lst (outs.map V.str)) ∧ ins.length ≤ 3 ∧ outs.length ≤ 3 ∧ (∀ n ∈ ins, Good n) ∧ (∀ n ∈ outs, Good n) ∧
  ∀ (H' : Hp) (v : V) (r : Rl), Kp H H' → Deal H' p l → RuleAt H' v r → OkR r → (∀ q ∈ r.gs, q.1 ∈ outs) → (∀ q ∈ r.ws, q.1 ∈ ins) → Q v H'
abbrev nmRu : List Str := ["_law_deal_here", "_law_ins", "_law_outs", "_law_used", "_law_weights", "_law_paid", "_law_gives", "_law_every", "_law_early", "_law_name"]
theorem scRu : FnScope nmRu ["_law_deal_here", "_law_ins", "_law_outs"] (defScope sRule) := ⟨rfl, rfl, rfl, by decide +kernel, rfl, by decide +kernel, by decide +kernel⟩
theorem ok_rule {f fK fO : Addr} {fd fdK fdO : FuncData} {k : Nat} (F : Fun K "_law_rule" "_law_rule" sRule f fd)
    (GK : FnOk P w K mg base CX0 k fK fdK ["_law_deal_here", "_law_many"] spPick) (kK : PySem.W.keepIn K (.ref fK) = true) (bK : Binds K fdK ["_law_deal_here", "_law_many"] []) (gK : mg "_law_pick" = some (.ref fK))
    (GO : FnOk P w K mg base CX0 k fO fdO ["_law_deal_here", "_law_some"] spOf) (kO : PySem.W.keepIn K (.ref fO) = true) (bO : Binds K fdO ["_law_deal_here", "_law_some"] []) (gO : mg "_law_of" = some (.ref fO)) (B : Bi mg) (J : Bj mg) :
    FnOk P w K mg base CX0 (k + 1) f fd ["_law_deal_here", "_law_ins", "_law_outs"] spRule := by
  refine F.ok scRu (fun vs H Q E h => ?_) (fun cdv A outer s H vs Q E hr h => ?_)
  · obtain ⟨p, l, i, o, ins, outs, rfl, _⟩ := h
    rfl
  · obtain ⟨p, l, i, o, ins, outs, rfl, dl, hi, ho, li, lo, ins_g, outs_g, q⟩ := h
    refine ⟨_, pss_cons (ps_set (i := 3) scRu.nd rfl (.inl rfl) (pe_callB cr_sortedS (by rfl) J.sorted (by decide +kernel) (pa_cons (pe_lc (own := [("_law_name", 9)]) (g := gName 9) rfl scRu.nd (pi_list (pv 1)) (blkOk_by (own := [("_law_name", 9)]) (N := nmRu) (sc := defScope sRule) (by decide +kernel)) (fun _ _ _ _ _ => pg_name (i := 9) scRu.nd rfl (Or.inl rfl)) (fun _ _ _ _ _ => pts_one (pt_cmpR op_eq (pe_call GK hr (by rfl) gK kK bK .nil pass0 (pa_cons (pv 0) (pa_cons pe_int pa_nil))) pe_int (nomark _))) (fun _ _ _ _ _ => pv 9)) pa_nil)))
      (Evl.pss_cut (ps_set (i := 3) scRu.nd rfl (.inl rfl) (pe_ifExp (pt_cmpR (op_neD hr.units) (pv 3) (pe_lst pa_nil) (nomark _)) (pv 3) (pe_slice sl_list (pe_callB cr_sortedS (by rfl) J.sorted (by decide +kernel) (pa_cons (pv 1) pa_nil)) po_none (po_some pe_int))))
      (pss_cons (ps_set (i := 4) scRu.nd rfl (.inl rfl) (pe_callTy call_tuple_of (by rfl) B.tup (by decide +kernel) (pa_cons (pe_lc (own := [("_law_name", 9)]) (g := gName 9) rfl scRu.nd (pi_list (pv 3)) (blkOk_by (own := [("_law_name", 9)]) (N := nmRu) (sc := defScope sRule) (by decide +kernel)) (fun _ _ _ _ _ => pg_name (i := 9) scRu.nd rfl (Or.inl rfl)) (fun _ _ _ _ _ => pts_nil) (fun _ _ _ _ _ => pe_tup (pa_cons (pv 9) (pa_cons (pe_op op_add pe_int (pe_call GO hr (by rfl) gO kO bO .nil pass0 (pa_cons (pv 0) (pa_cons (pe_lst (pa_cons pe_int (pa_cons pe_int (pa_cons pe_int (pa_cons pe_int pa_nil))))) pa_nil)))) pa_nil)))) pa_nil)))
      (pss_cons (ps_set (i := 5) scRu.nd rfl (.inl rfl) (pe_callB cr_sortedS (by rfl) J.sorted (by decide +kernel) (pa_cons (pe_lc (own := [("_law_name", 9)]) (g := gName 9) rfl scRu.nd (pi_list (pv 2)) (blkOk_by (own := [("_law_name", 9)]) (N := nmRu) (sc := defScope sRule) (by decide +kernel)) (fun _ _ _ _ _ => pg_name (i := 9) scRu.nd rfl (Or.inl rfl)) (fun _ _ _ _ _ => pts_one (pt_cmpR op_gt (pe_call GK hr (by rfl) gK kK bK .nil pass0 (pa_cons (pv 0) (pa_cons pe_int pa_nil))) pe_int (nomark _))) (fun _ _ _ _ _ => pv 9)) pa_nil)))
      (Evl.pss_cut (ps_set (i := 5) scRu.nd rfl (.inl rfl) (pe_ifExp (pt_cmpR (op_neD hr.units) (pv 5) (pe_lst pa_nil) (nomark _)) (pv 5) (pe_slice sl_list (pe_callB cr_sortedS (by rfl) J.sorted (by decide +kernel) (pa_cons (pv 2) pa_nil)) po_none (po_some pe_int))))
      (pss_cons (ps_set (i := 6) scRu.nd rfl (.inl rfl) (pe_callTy call_tuple_of (by rfl) B.tup (by decide +kernel) (pa_cons (pe_lc (own := [("_law_name", 9)]) (g := gName 9) rfl scRu.nd (pi_list (pv 5)) (blkOk_by (own := [("_law_name", 9)]) (N := nmRu) (sc := defScope sRule) (by decide +kernel)) (fun _ _ _ _ _ => pg_name (i := 9) scRu.nd rfl (Or.inl rfl)) (fun _ _ _ _ _ => pts_nil) (fun _ _ _ _ _ => pe_tup (pa_cons (pv 9) (pa_cons (pe_op op_add pe_int (pe_call GO hr (by rfl) gO kO bO .nil pass0 (pa_cons (pv 0) (pa_cons (pe_lst (pa_cons pe_int (pa_cons pe_int (pa_cons pe_int (pa_cons pe_int (pa_cons pe_int pa_nil)))))) pa_nil)))) pa_nil)))) pa_nil)))
      (pss_cons (ps_par (i := 7) (j := 8) rfl scRu.nd rfl rfl (by decide) rfl rfl (pa_cons (pe_op op_add pe_int (pe_call GO hr (by rfl) gO kO bO .nil pass0 (pa_cons (pv 0) (pa_cons (pe_lst (pa_cons pe_int (pa_cons pe_int (pa_cons pe_int (pa_cons pe_int (pa_cons pe_int pa_nil)))))) pa_nil)))) (pa_cons (pe_call GO hr (by rfl) gO kO bO .nil pass0 (pa_cons (pv 0) (pa_cons (pe_lst (pa_cons pe_int (pa_cons pe_int (pa_cons pe_int (pa_cons pe_int (pa_cons pe_int pa_nil)))))) pa_nil))) pa_nil)) (by rfl))
      (pss_one (ps_ret (pe_tup (pa_cons pe_str (pa_cons (pv 7) (pa_cons (pv 8) (pa_cons (pv 4) (pa_cons (pv 6) (pa_cons (pe_call GO hr (by rfl) gO kO bO .nil pass0 (pa_cons (pv 0) (pa_cons (pe_lst (pa_cons pe_non (pa_cons pe_non (pa_cons pe_non (pa_cons pe_int (pa_cons pe_int pa_nil)))))) pa_nil))) pa_nil))))))))))))))), ?_⟩
    -- used
    refine ⟨_, rfl, i, rfl, ⟨_, SqL.of hi⟩, fun D1 nD1 => ?_⟩
    have sD1 := same_upd (o := .lst []) nD1
    have np1 := dl.ne nD1
    have nl1 := dl.nl nD1
    refine lc_list (K := K) (a := i) (xs := ins.map V.str) (fun j H' => ∃ sel : List Str, Kp H H' ∧ Deal H' p l ∧ H' D1 = some (.lst (sel.map V.str)) ∧ (∀ s ∈ sel, s ∈ ins) ∧ sel.length ≤ j)
      ⟨[], Kp.of sD1, dl.same sD1, upd_same, (fun s hs => by cases hs), Nat.zero_le _⟩ (fun j H' _ ⟨_, kp', _⟩ => SqL.of (kp'.keep _ _ nd_strs hi)) ?_ ?_
    · rintro j x H' hx ⟨sel, kp', dl', hD, hin, hl⟩
      obtain ⟨nm, hnm, rfl⟩ := map_str_get hx
      have hmem : nm ∈ ins := List.mem_of_getElem? hnm
      have hjl := (List.getElem?_eq_some_iff.mp hnm).1
      refine ⟨rfl, ?_⟩
      refine ⟨_, rfl, p, l, 2, rfl, dl', by decide, lg (b := 11) (by decide) (by decide) (by decide), fun H2 r k2 dl2 r0 r1 => ?_⟩
      have hD2 := k2.keep _ _ nd_strs hD
      refine ⟨rfl, _, rfl, ite2 (fun e => ?_) (fun e => ?_)⟩
      · refine ⟨_, rfl, _, hD2, ?_, sel ++ [nm], (kp'.trans k2).put nD1, dl2.put np1 nl1, ?_, ?_, ?_⟩
        · rw [List.length_map]
          exact small1000 (by omega)
        · rw [upd_same, List.map_append]
          rfl
        · intro s hs
          rcases List.mem_append.mp hs with h | h
          · exact hin s h
          · rw [List.mem_singleton.mp h]
            exact hmem
        · rw [List.length_append, List.length_singleton]
          omega
      · exact ⟨sel, kp'.trans k2, dl2, hD2, hin, by omega⟩
    rintro H1a ⟨sel1, ka1, dla1, hDa1, hin1, hl1⟩
    rw [List.length_map] at hl1
    refine ⟨D1, sel1, rfl, SqL.of hDa1, by omega, fun ys1 q1 pm1 _ nq1 => ?_⟩
    have sq1 := same_upd (o := .lst (ys1.map V.str)) nq1
    have yin1 : ∀ s ∈ ys1, s ∈ ins := fun s hs => hin1 s (pm1.subset hs)
    have yl1 : ys1.length ≤ 3 := by
      rw [pm1.length_eq]
      omega
    have kb1 := (Kp.refl H).trans (ka1.trans (Kp.of sq1))
    have dlb1 := dla1.same sq1
    have hq1 : (upd H1a q1 (.lst (ys1.map V.str))) q1 = some (.lst (ys1.map V.str)) := upd_same
    generalize (upd H1a q1 (.lst (ys1.map V.str))) = H1b at *
    -- or the first of all
    refine ⟨fun σ' H' => ∃ (u : Addr) (us : List Str), σ' = [some (.ref p), some (.ref i), some (.ref o), some (.ref u), none, none, none, none, none, none] ∧ Kp H H' ∧ Deal H' p l ∧ H' u = some (.lst (us.map V.str)) ∧ us.length ≤ 3 ∧ ∀ s ∈ us, s ∈ ins, ?_, ?_⟩
    · refine ⟨_, rfl, Nat.zero_le _, fun z nz => ?_⟩
      have sz := same_upd (o := .lst []) nz
      refine ⟨.list (ys1.map PyData.str), .list [], .lst (SqL.of (sz _ _ hq1)) (strs_dp _), .lst (SqL.of upd_same) .nil, strs_shaped _ (fun n hn => ins_g n (yin1 n hn)), strs_shaped [] (fun n hn => by cases hn), _, rfl, ?_⟩
      rw [strs_eqv_nil]
      refine ite2 (fun e => ?_) (fun e => ?_)
      · exact ⟨_, rfl, q1, ys1, rfl, kb1.trans (Kp.of sz), dlb1.same sz, sz _ _ hq1, yl1, yin1⟩
      · refine ⟨_, rfl, i, ins, rfl, SqL.of (sz _ _ (kb1.keep _ _ nd_strs hi)), by omega, fun zs q2 pm2 _ nq2 => ?_⟩
        have s2 := same_upd (o := .lst (zs.map V.str)) nq2
        refine ⟨1, rfl, q2, zs.map V.str, rfl, SqL.of upd_same, fun q3 nq3 => ?_⟩
        rw [cut1, ← List.map_take]
        have s3 := same_upd (o := .lst ((zs.take 1).map V.str)) nq3
        refine ⟨q3, zs.take 1, rfl, kb1.trans (Kp.of (sz.trans (s2.trans s3))), dlb1.same (sz.trans (s2.trans s3)), upd_same, ?_, fun s hs => pm2.subset (List.mem_of_mem_take hs)⟩
        rw [List.length_take]
        omega
    rintro σ' H1 ⟨u1, us1, rfl, kc1, dlc1, hu1, ul1, uin1⟩

    -- pairs of us1
    refine ⟨_, rfl, u1, rfl, ⟨_, SqL.of hu1⟩, fun D2 nD2 => ?_⟩
    have sD2 := same_upd (o := .lst []) nD2
    have np2 := dlc1.ne nD2
    have nl2 := dlc1.nl nD2
    refine lc_list (K := K) (a := u1) (xs := us1.map V.str) (fun j H' => ∃ (vs : List V) (ps : List (Str × Int)), Kp H1 H' ∧ Deal H' p l ∧ H' D2 = some (.lst vs) ∧ Paired (PairAt H') vs ps ∧ ps.map (·.1) = us1.take j ∧ ∀ q ∈ ps, 0 ≤ q.2 ∧ q.2 ≤ 3)
      ⟨[], [], Kp.of sD2, dlc1.same sD2, upd_same, .nil, by rw [List.take_zero]; rfl, (fun q hq => by cases hq)⟩ (fun j H' _ ⟨_, _, kp', _⟩ => SqL.of (kp'.keep _ _ nd_strs hu1)) ?_ ?_
    · rintro j x H' hx ⟨vs, ps, kp', dl', hD, pp, pn, pv'⟩
      obtain ⟨nm, hnm, rfl⟩ := map_str_get hx
      have hjl := (List.getElem?_eq_some_iff.mp hnm).1
      have lv := pp.length
      have lps : ps.length = j := by
        have := congrArg List.length pn
        rw [List.length_map, List.length_take] at this
        omega
      refine ⟨rfl, ?_⟩
      refine ⟨_, rfl, _, rfl, (by show 4 ≤ sizeLine; decide), fun c nc => ?_⟩
      have sc := same_upd (o := .lst (([0, 0, 1, 2] : List Int).map V.int)) nc
      refine ⟨p, l, c, ([0, 0, 1, 2] : List Int).map V.int, rfl, dl'.same sc, upd_same, nd_ints, by decide, by decide, fun H2 x hx2 k2 dl2 => ?_⟩
      obtain ⟨r, hr2, rfl⟩ := List.mem_map.mp hx2
      have rb : 0 ≤ r ∧ r ≤ 2 := by
        simp only [List.mem_cons, List.not_mem_nil, or_false] at hr2
        omega
      have kk := (Kp.of sc).trans k2
      refine ⟨_, _, rfl, rfl, (by show 2 ≤ sizeLine; decide), fun T nT => ?_⟩
      have sT := same_upd (o := .tup [.str nm, .int (1 + r)]) nT
      have kT := kk.trans (Kp.of sT)
      have hDT := kT.keep _ _ (nd_pairs pp) hD
      refine ⟨_, hDT, small1000 (by omega), vs ++ [.ref T], ps ++ [(nm, 1 + r)], (kp'.trans kT).put nD2, (dl2.same sT).put np2 nl2, upd_same, ?_, ?_, ?_⟩
      · have nTD : T ≠ D2 := ne_of_fresh (kk.keep _ _ (nd_pairs pp) hD) nT
        have keepT : ∀ v q, PairAt H' v q → PairAt (upd (upd H2 T (.tup [.str nm, .int (1 + r)])) D2 (.lst (vs ++ [.ref T]))) v q := fun v q ⟨a, e, h⟩ => by
          have na : a ≠ D2 := fun z => by
            rw [z, hD] at h
            cases h
          exact ⟨a, e, by rw [upd_ne na]; exact kT.keep _ _ nd_tup h⟩
        exact paired_snoc (paired_mono keepT pp) ⟨T, rfl, by rw [upd_ne nTD]; exact upd_same⟩
      · rw [List.map_append, pn, List.take_add_one, hnm]
        rfl
      · intro q hq
        rcases List.mem_append.mp hq with h | h
        · exact pv' q h
        · rw [List.mem_singleton.mp h]
          exact ⟨by show 0 ≤ 1 + r; omega, by show 1 + r ≤ 3; omega⟩
    rintro H2a ⟨vs2, ps2, ka2, dla2, hDa2, pp2, pn2, pv2⟩
    rw [List.length_map, List.take_length] at pn2
    have pl2 : ps2.length ≤ 3 := by
      have := congrArg List.length pn2
      rw [List.length_map] at this
      omega
    refine ⟨D2, _, rfl, .inl ⟨SqL.of hDa2, fun t2 nt2 => ?_⟩⟩
    have st2 := same_upd (o := .tup vs2) nt2
    have kd2 := kc1.trans (ka2.trans (Kp.of st2))
    have dld2 := dla2.same st2
    have pa2 : PairsAt (upd H2a t2 (.tup vs2)) t2 ps2 := ⟨_, upd_same, paired_mono (fun _ _ => PairAt.kp (Kp.of st2)) pp2⟩
    generalize (upd H2a t2 (.tup vs2)) = H2 at *

    -- paid
    refine ⟨_, rfl, o, rfl, ⟨_, SqL.of (kd2.keep _ _ nd_strs ho)⟩, fun D3 nD3 => ?_⟩
    have sD3 := same_upd (o := .lst []) nD3
    have np3 := dld2.ne nD3
    have nl3 := dld2.nl nD3
    refine lc_list (K := K) (a := o) (xs := outs.map V.str) (fun j H' => ∃ sel : List Str, Kp H2 H' ∧ Deal H' p l ∧ H' D3 = some (.lst (sel.map V.str)) ∧ (∀ s ∈ sel, s ∈ outs) ∧ sel.length ≤ j)
      ⟨[], Kp.of sD3, dld2.same sD3, upd_same, (fun s hs => by cases hs), Nat.zero_le _⟩ (fun j H' _ ⟨_, kp', _⟩ => SqL.of (kp'.keep _ _ nd_strs (kd2.keep _ _ nd_strs ho))) ?_ ?_
    · rintro j x H' hx ⟨sel, kp', dl', hD, hin, hl⟩
      obtain ⟨nm, hnm, rfl⟩ := map_str_get hx
      have hmem : nm ∈ outs := List.mem_of_getElem? hnm
      have hjl := (List.getElem?_eq_some_iff.mp hnm).1
      refine ⟨rfl, ?_⟩
      refine ⟨_, rfl, p, l, 3, rfl, dl', by decide, lg (b := 11) (by decide) (by decide) (by decide), fun H2 r k2 dl2 r0 r1 => ?_⟩
      have hD2 := k2.keep _ _ nd_strs hD
      refine ⟨_, _, rfl, rfl, _, rfl, ite2 (fun e => ?_) (fun e => ?_)⟩
      · refine ⟨_, rfl, _, hD2, ?_, sel ++ [nm], (kp'.trans k2).put nD3, dl2.put np3 nl3, ?_, ?_, ?_⟩
        · rw [List.length_map]
          exact small1000 (by omega)
        · rw [upd_same, List.map_append]
          rfl
        · intro s hs
          rcases List.mem_append.mp hs with h | h
          · exact hin s h
          · rw [List.mem_singleton.mp h]
            exact hmem
        · rw [List.length_append, List.length_singleton]
          omega
      · exact ⟨sel, kp'.trans k2, dl2, hD2, hin, by omega⟩
    rintro H2a ⟨sel3, ka3, dla3, hDa3, hin3, hl3⟩
    rw [List.length_map] at hl3
    refine ⟨D3, sel3, rfl, SqL.of hDa3, by omega, fun ys3 q3 pm3 _ nq3 => ?_⟩
    have sq3 := same_upd (o := .lst (ys3.map V.str)) nq3
    have yin3 : ∀ s ∈ ys3, s ∈ outs := fun s hs => hin3 s (pm3.subset hs)
    have yl3 : ys3.length ≤ 3 := by
      rw [pm3.length_eq]
      omega
    have kb3 := kd2.trans (ka3.trans (Kp.of sq3))
    have dlb3 := dla3.same sq3
    have hq3 : (upd H2a q3 (.lst (ys3.map V.str))) q3 = some (.lst (ys3.map V.str)) := upd_same
    generalize (upd H2a q3 (.lst (ys3.map V.str))) = H2b at *
    -- or the first of all
    refine ⟨fun σ' H' => ∃ (u : Addr) (us : List Str), σ' = [some (.ref p), some (.ref i), some (.ref o), some (.ref u1), some (.ref t2), some (.ref u), none, none, none, none] ∧ Kp H H' ∧ (∀ b o, Nd o → H2 b = some o → H' b = some o) ∧ Deal H' p l ∧ H' u = some (.lst (us.map V.str)) ∧ us.length ≤ 3 ∧ ∀ s ∈ us, s ∈ outs, ?_, ?_⟩
    · refine ⟨_, rfl, Nat.zero_le _, fun z nz => ?_⟩
      have sz := same_upd (o := .lst []) nz
      refine ⟨.list (ys3.map PyData.str), .list [], .lst (SqL.of (sz _ _ hq3)) (strs_dp _), .lst (SqL.of upd_same) .nil, strs_shaped _ (fun n hn => outs_g n (yin3 n hn)), strs_shaped [] (fun n hn => by cases hn), _, rfl, ?_⟩
      rw [strs_eqv_nil]
      refine ite2 (fun e => ?_) (fun e => ?_)
      · exact ⟨_, rfl, q3, ys3, rfl, kb3.trans (Kp.of sz), fun b o n h => sz _ _ (sq3 _ _ (ka3.keep _ _ n h)), dlb3.same sz, sz _ _ hq3, yl3, yin3⟩
      · refine ⟨_, rfl, o, outs, rfl, SqL.of (sz _ _ (kb3.keep _ _ nd_strs ho)), by omega, fun zs q2 pm2 _ nq2 => ?_⟩
        have s2 := same_upd (o := .lst (zs.map V.str)) nq2
        refine ⟨1, rfl, q2, zs.map V.str, rfl, SqL.of upd_same, fun q3 nq3 => ?_⟩
        rw [cut1, ← List.map_take]
        have s3 := same_upd (o := .lst ((zs.take 1).map V.str)) nq3
        refine ⟨q3, zs.take 1, rfl, kb3.trans (Kp.of (sz.trans (s2.trans s3))), fun b o n h => s3 _ _ (s2 _ _ (sz _ _ (sq3 _ _ (ka3.keep _ _ n h)))), dlb3.same (sz.trans (s2.trans s3)), upd_same, ?_, fun s hs => pm2.subset (List.mem_of_mem_take hs)⟩
        rw [List.length_take]
        omega
    rintro σ' H3 ⟨u3, us3, rfl, kc3, kx3, dlc3, hu3, ul3, uin3⟩

    -- pairs of us3
    refine ⟨_, rfl, u3, rfl, ⟨_, SqL.of hu3⟩, fun D4 nD4 => ?_⟩
    have sD4 := same_upd (o := .lst []) nD4
    have np4 := dlc3.ne nD4
    have nl4 := dlc3.nl nD4
    refine lc_list (K := K) (a := u3) (xs := us3.map V.str) (fun j H' => ∃ (vs : List V) (ps : List (Str × Int)), Kp H3 H' ∧ Deal H' p l ∧ H' D4 = some (.lst vs) ∧ Paired (PairAt H') vs ps ∧ ps.map (·.1) = us3.take j ∧ ∀ q ∈ ps, 0 ≤ q.2 ∧ q.2 ≤ 3)
      ⟨[], [], Kp.of sD4, dlc3.same sD4, upd_same, .nil, by rw [List.take_zero]; rfl, (fun q hq => by cases hq)⟩ (fun j H' _ ⟨_, _, kp', _⟩ => SqL.of (kp'.keep _ _ nd_strs hu3)) ?_ ?_
    · rintro j x H' hx ⟨vs, ps, kp', dl', hD, pp, pn, pv'⟩
      obtain ⟨nm, hnm, rfl⟩ := map_str_get hx
      have hjl := (List.getElem?_eq_some_iff.mp hnm).1
      have lv := pp.length
      have lps : ps.length = j := by
        have := congrArg List.length pn
        rw [List.length_map, List.length_take] at this
        omega
      refine ⟨rfl, ?_⟩
      refine ⟨_, rfl, _, rfl, (by show 5 ≤ sizeLine; decide), fun c nc => ?_⟩
      have sc := same_upd (o := .lst (([0, 0, 0, 1, 2] : List Int).map V.int)) nc
      refine ⟨p, l, c, ([0, 0, 0, 1, 2] : List Int).map V.int, rfl, dl'.same sc, upd_same, nd_ints, by decide, by decide, fun H2 x hx2 k2 dl2 => ?_⟩
      obtain ⟨r, hr2, rfl⟩ := List.mem_map.mp hx2
      have rb : 0 ≤ r ∧ r ≤ 2 := by
        simp only [List.mem_cons, List.not_mem_nil, or_false] at hr2
        omega
      have kk := (Kp.of sc).trans k2
      refine ⟨_, _, rfl, rfl, (by show 2 ≤ sizeLine; decide), fun T nT => ?_⟩
      have sT := same_upd (o := .tup [.str nm, .int (1 + r)]) nT
      have kT := kk.trans (Kp.of sT)
      have hDT := kT.keep _ _ (nd_pairs pp) hD
      refine ⟨_, hDT, small1000 (by omega), vs ++ [.ref T], ps ++ [(nm, 1 + r)], (kp'.trans kT).put nD4, (dl2.same sT).put np4 nl4, upd_same, ?_, ?_, ?_⟩
      · have nTD : T ≠ D4 := ne_of_fresh (kk.keep _ _ (nd_pairs pp) hD) nT
        have keepT : ∀ v q, PairAt H' v q → PairAt (upd (upd H2 T (.tup [.str nm, .int (1 + r)])) D4 (.lst (vs ++ [.ref T]))) v q := fun v q ⟨a, e, h⟩ => by
          have na : a ≠ D4 := fun z => by
            rw [z, hD] at h
            cases h
          exact ⟨a, e, by rw [upd_ne na]; exact kT.keep _ _ nd_tup h⟩
        exact paired_snoc (paired_mono keepT pp) ⟨T, rfl, by rw [upd_ne nTD]; exact upd_same⟩
      · rw [List.map_append, pn, List.take_add_one, hnm]
        rfl
      · intro q hq
        rcases List.mem_append.mp hq with h | h
        · exact pv' q h
        · rw [List.mem_singleton.mp h]
          exact ⟨by show 0 ≤ 1 + r; omega, by show 1 + r ≤ 3; omega⟩
    rintro H4a ⟨vs4, ps4, ka4, dla4, hDa4, pp4, pn4, pv4⟩
    rw [List.length_map, List.take_length] at pn4
    have pl4 : ps4.length ≤ 3 := by
      have := congrArg List.length pn4
      rw [List.length_map] at this
      omega
    refine ⟨D4, _, rfl, .inl ⟨SqL.of hDa4, fun t4 nt4 => ?_⟩⟩
    have st4 := same_upd (o := .tup vs4) nt4
    have kz4 : ∀ b o, Nd o → H3 b = some o → (upd H4a t4 (.tup vs4)) b = some o := fun b o n h => st4 _ _ (ka4.keep _ _ n h)
    have kd4 := kc3.trans (ka4.trans (Kp.of st4))
    have dld4 := dla4.same st4
    have pa4 : PairsAt (upd H4a t4 (.tup vs4)) t4 ps4 := ⟨_, upd_same, paired_mono (fun _ _ => PairAt.kp (Kp.of st4)) pp4⟩
    generalize (upd H4a t4 (.tup vs4)) = H4 at *

    have pw4 : PairsAt H4 t2 ps2 := by
      obtain ⟨wv, h1, h2⟩ := pa2
      have through : ∀ b o, Nd o → H2 b = some o → H4 b = some o := fun b o n h => kz4 b o n (kx3 b o n h)
      exact ⟨wv, through _ _ nd_tup h1, paired_mono (fun v q ⟨a, e, h⟩ => ⟨a, e, through _ _ nd_tup h⟩) h2⟩
    -- every, early
    refine ⟨_, rfl, (by show 5 ≤ sizeLine; decide), fun c nc => ?_⟩
    have sc := same_upd (o := .lst (([0, 1, 1, 2, 3] : List Int).map V.int)) nc
    refine ⟨p, l, c, ([0, 1, 1, 2, 3] : List Int).map V.int, rfl, dld4.same sc, upd_same, nd_ints, by decide, by decide, fun H5 x hx k5 dl5 => ?_⟩
    obtain ⟨ev, hev, rfl⟩ := List.mem_map.mp hx
    have eb : 0 ≤ ev ∧ ev ≤ 3 := by
      simp only [List.mem_cons, List.not_mem_nil, or_false] at hev
      omega
    refine ⟨_, _, rfl, rfl, _, rfl, (by show 5 ≤ sizeLine; decide), fun c2 nc2 => ?_⟩
    have sc2 := same_upd (o := .lst (([0, 0, 0, 1, 2] : List Int).map V.int)) nc2
    refine ⟨p, l, c2, ([0, 0, 0, 1, 2] : List Int).map V.int, rfl, dl5.same sc2, upd_same, nd_ints, by decide, by decide, fun H6 x hx k6 dl6 => ?_⟩
    obtain ⟨ea, hea, rfl⟩ := List.mem_map.mp hx
    have ab : 0 ≤ ea ∧ ea ≤ 2 := by
      simp only [List.mem_cons, List.not_mem_nil, or_false] at hea
      omega
    refine ⟨_, _, rfl, ?_⟩
    -- the rule
    refine ⟨_, rfl, _, rfl, _, rfl, _, rfl, _, rfl, (by show 5 ≤ sizeLine; decide), fun c3 nc3 => ?_⟩
    have sc3 := same_upd (o := .lst [V.non, V.non, V.non, V.int 1, V.int 2]) nc3
    refine ⟨p, l, c3, [V.non, V.non, V.non, V.int 1, V.int 2], rfl, dl6.same sc3, upd_same, nd_lst (fun x r e a => by cases e; intro z; cases z), by decide, by decide, fun H7 x hx k7 dl7 => ?_⟩
    obtain ⟨mo, rfl, hmo⟩ : ∃ mo : Option Int, x = moV mo ∧ (mo = none ∨ mo = some 1 ∨ mo = some 2) := by
      simp only [List.mem_cons, List.not_mem_nil, or_false] at hx
      rcases hx with rfl | rfl | rfl | rfl | rfl
      · exact ⟨none, rfl, .inl rfl⟩
      · exact ⟨none, rfl, .inl rfl⟩
      · exact ⟨none, rfl, .inl rfl⟩
      · exact ⟨some 1, rfl, .inr (.inl rfl)⟩
      · exact ⟨some 2, rfl, .inr (.inr rfl)⟩
    refine ⟨(by show 6 ≤ sizeLine; decide), fun t nt => ?_⟩
    have sF := same_upd (o := .tup [.str "each", .int (1 + ev), .int ea, .ref t2, .ref t4, moV mo]) nt
    have k47 := ((((Kp.of sc).trans k5).trans ((Kp.of sc2).trans k6)).trans ((Kp.of sc3).trans k7)).trans (Kp.of sF)
    refine q _ _ ⟨1 + ev, ea, mo, ps2, ps4⟩ (kd4.trans k47) (dl7.same sF) ⟨t, t2, t4, rfl, upd_same, pw4.kp k47, pa4.kp k47⟩ ⟨⟨by show 1 ≤ 1 + ev; omega, by show 1 + ev ≤ 4; omega, ab.1, ab.2, hmo⟩, pl2, pv2, pl4, pv4⟩ ?_ ?_
    rotate_left
    · intro q' hq'
      have h1 : q'.1 ∈ ps2.map (·.1) := List.mem_map_of_mem hq'
      rw [pn2] at h1
      exact uin1 _ h1
    intro q' hq'
    have h1 : q'.1 ∈ ps4.map (·.1) := List.mem_map_of_mem hq'
    rw [pn4] at h1
    exact uin3 _ h1
end
end Hl

set_option Elab.async false
set_option linter.all false
set_option maxRecDepth 100000
set_option maxHeartbeats 4000000
namespace Hl
open PySem PySem.Spec PyProof.Rows L2
abbrev sRen : Stmt := topS 30
theorem refs_of_ents {H : Hp} : ∀ {vs : List V} {ps : List Ent}, Paired (EntAt H) vs ps → ∃ as : List Addr, vs = as.map V.ref
  | _, _, .nil => ⟨[], rfl⟩
  | _, _, .cons ⟨a, _, e, _⟩ r => by
    obtain ⟨as, h⟩ := refs_of_ents r
    exact ⟨a :: as, by rw [e, h]; rfl⟩
theorem refs_of_rows {H : Hp} : ∀ {vs : List V} {ps : Tab}, Paired (RowAt H) vs ps → ∃ as : List Addr, vs = as.map V.ref
  | _, _, .nil => ⟨[], rfl⟩
  | _, _, .cons ⟨a, _, e, _⟩ r => by
    obtain ⟨as, h⟩ := refs_of_rows r
    exact ⟨a :: as, by rw [e, h]; rfl⟩
theorem nd_ents {H : Hp} {vs : List V} {ps : List Ent} (h : Paired (EntAt H) vs ps) : Nd (.lst vs) := by
  obtain ⟨as, rfl⟩ := refs_of_ents h
  exact nd_refs
theorem nd_rows {H : Hp} {vs : List V} {ps : Tab} (h : Paired (RowAt H) vs ps) : Nd (.lst vs) := by
  obtain ⟨as, rfl⟩ := refs_of_rows h
  exact nd_refs
section
variable {H H' : Hp}
theorem EntAt.kp {v : V} {s : Ent} (k : Kp H H') (h : EntAt H v s) : EntAt H' v s := by
  obtain ⟨a, t, e, h, h2⟩ := h
  exact ⟨a, t, e, k.keep _ _ nd_tup h, k.keep _ _ nd_tup h2⟩
theorem RowAt.kp {v : V} {s : List Ent} (k : Kp H H') (h : RowAt H v s) : RowAt H' v s := by
  obtain ⟨a, vs, e, h, h2⟩ := h
  exact ⟨a, vs, e, k.keep _ _ (nd_ents h2) h, paired_mono (fun _ _ => EntAt.kp k) h2⟩
theorem TabAt.kp {a : Addr} {s : Tab} (k : Kp H H') (h : TabAt H a s) : TabAt H' a s := by
  obtain ⟨vs, h, h2⟩ := h
  exact ⟨vs, k.keep _ _ (nd_rows h2) h, paired_mono (fun _ _ => RowAt.kp k) h2⟩
end
def pos' (ord : List Nat) (t : Nat) : Nat := ord.findIdx fun x => decide (x = t)
theorem pos_lt {ord : List Nat} {t : Nat} (h : t ∈ ord) : pos' ord t < ord.length := List.findIdx_lt_length_of_exists ⟨t, h, decide_eq_true rfl⟩
theorem pos_get {ord : List Nat} {t : Nat} (h : t ∈ ord) : ord[pos' ord t]? = some t := by
  have hl := pos_lt h
  rw [List.getElem?_eq_getElem hl]
  have := List.findIdx_getElem (xs := ord) (p := fun x => decide (x = t)) (w := hl)
  exact congrArg some (of_decide_eq_true this)
theorem pos_no {ord : List Nat} {t s m : Nat} (h : m < pos' ord t) (e : ord[m]? = some s) : s ≠ t := by
  obtain ⟨hl, rfl⟩ := List.getElem?_eq_some_iff.mp e
  have := List.not_of_lt_findIdx (xs := ord) (p := fun x => decide (x = t)) h
  intro z
  simp [z] at this
def renRow (ord : List Nat) (row : List Ent) : List Ent := row.map fun e => ((pos' ord e.1.toNat : Int), e.2)
def renum (ord : List Nat) (rows : Tab) : Tab := ord.map fun o => renRow ord ((rows[o]?).getD [])
def lcScope : Expr → Scope
  | .ListComp _ _ sc _ => { sc with names := sc.names.map fun (n, k) => if k == NameKind.free then (n, NameKind.cell) else (n, k) }
  | _ => { kind := .function, names := [], isGenerator := false, isCoroutine := false }
def retE : Stmt → Expr
  | .Return (some e) _ => e
  | _ => .Constant .none 0 ⟨0, 0, 0, 0⟩
def natV (ns : List Nat) : List V := ns.map fun (n : Nat) => V.int (n : Int)
theorem natV_get {ns : List Nat} {i : Nat} {v : V} (h : (natV ns)[i]? = some v) : ∃ s, ns[i]? = some s ∧ v = .int (s : Nat) := by
  unfold natV at h
  rw [List.getElem?_map] at h
  cases e : ns[i]? with
  | none =>
    rw [e] at h
    cases h
  | some s =>
    rw [e] at h
    exact ⟨s, rfl, (Option.some.inj h).symm⟩
theorem natV_flat (ns : List Nat) : (natV ns).all flatV = true := by
  unfold natV
  rw [List.all_map]
  exact List.all_eq_true.mpr fun _ _ => rfl
theorem nd_natV {ns : List Nat} : Nd (.lst (natV ns)) := nd_lst fun x r e a => by
  cases ns with
  | nil => cases e
  | cons s t =>
    cases e
    intro z
    cases z
def toN : V → Nat
  | .int i => i.toNat
  | _ => 0
theorem perm_nats {ys : List V} {m : Nat} (h : ys.Perm ((List.range m).map fun i => V.int (1 + (i : Nat)))) : ∃ o : List Nat, ys = natV o ∧ o.Perm ((List.range m).map (· + 1)) := by
  refine ⟨ys.map toN, ?_, ?_⟩
  · unfold natV
    rw [List.map_map]
    refine (List.map_id ys).symm.trans (List.map_congr_left fun v hv => ?_)
    obtain ⟨i, _, rfl⟩ := List.mem_map.mp (h.subset hv)
    show V.int (1 + (i : Int)) = V.int (((1 + (i : Int)).toNat : Nat) : Int)
    rw [Int.toNat_of_nonneg (by omega)]
  · have := h.map toN
    rw [List.map_map] at this
    refine this.trans (List.Perm.of_eq (List.map_congr_left fun i _ => ?_))
    show (1 + (i : Int)).toNat = i + 1
    omega
theorem perm_ord {o : List Nat} {n : Nat} (h1 : 1 ≤ n) (h : o.Perm ((List.range (n - 1)).map (· + 1))) : (0 :: o).Perm (List.range n) := by
  have e : List.range n = 0 :: (List.range (n - 1)).map (· + 1) := by
    obtain ⟨m, rfl⟩ : ∃ m, n = m + 1 := ⟨n - 1, by omega⟩
    rw [Nat.add_sub_cancel, List.range_succ_eq_map]
  rw [e]
  exact List.Perm.cons 0 h
section
variable {P : Program} {w : World} {K : PySem.W.Frag} {mg : Str → Option Value} {base : Heap}
def spRen : Sp := fun vs H Q _ => ∃ (p l a : Addr) (rows : Tab), vs = [.ref p, .ref a] ∧ Deal H p l ∧ TabAt H a rows ∧ 1 ≤ rows.length ∧ rows.length ≤ 100 ∧ (∀ row ∈ rows, row.length ≤ 10 ∧ ∀ e ∈ row, ∃ t : Nat, e.1 = t ∧ t < rows.length) ∧
  ∀ (H' : Hp) (q : Addr) (ord : List Nat), Kp H H' → Deal H' p l → H q = none → TabAt H' q (renum ord rows) → ord.Perm (List.range rows.length) → ord[0]? = some 0 → Q (.ref q) H'
abbrev nmRe : List Str := ["_law_deal_here", "_law_rows", "_law_order", "_law_old", "_law_there", "_law_sends"]
theorem scRe : FnScope nmRe ["_law_deal_here", "_law_rows"] (defScope sRen) := ⟨rfl, rfl, rfl, by decide +kernel, rfl, by decide +kernel, by decide +kernel⟩
abbrev scRe1 : Scope := lcScope (retE ((defBody sRen).getD 1 (.Pass ⟨0, 0, 0, 0⟩)))
theorem ok_ren {f fS : Addr} {fd fdS : FuncData} {k : Nat} (F : Fun K "_law_renumbered" "_law_renumbered" sRen f fd)
    (GS : FnOk P w K mg base CX0 k fS fdS ["_law_deal_here", "_law_some"] spShuf) (kS : PySem.W.keepIn K (.ref fS) = true) (bS : Binds K fdS ["_law_deal_here", "_law_some"] []) (gS : mg "_law_shuffled" = some (.ref fS)) (B : Bi mg) :
    FnOk P w K mg base CX0 (k + 1) f fd ["_law_deal_here", "_law_rows"] spRen := by
  refine F.ok scRe (fun vs H Q E h => ?_) (fun cdv A outer s H vs Q E hr h => ?_)
  · obtain ⟨p, l, a, rows, rfl, _⟩ := h
    rfl
  · obtain ⟨p, l, a, rows, rfl, dl, hT, n1, n100, rok, q⟩ := h
    refine ⟨_, pss_cons (ps_set (i := 2) scRe.nd rfl (.inr rfl) (pe_op op_cat (pe_lst (pa_cons pe_int pa_nil)) (pe_call GS hr (by rfl) gS kS bS .nil pass0 (pa_cons (pv 0) (pa_cons (pe_listRg rfl (by rfl) B.lst (prg_2 (by rfl) B.rng pe_int (pe_callB call_len_seq (by rfl) B.len PySem.boot_len (pa_cons (pv 1) pa_nil)))) pa_nil)))))
      (pss_one (ps_ret (pe_lc (own := [("_law_old", 3)]) (g := gName 3) (te := tLc (iList K (tOp (rIxL K) (tVar 1) (tVar 3))) (gTup K 2 (gCons (gName 4) (gCons (gName 5) gNil))) tYes (tTup (tCons (tBM K "list" (rIndex K) (tVar 2) (tCons (tVar 4) tNil)) (tCons (tVar 5) tNil))) [4, 5]) rfl scRe.nd (pi_list (pv 2))
        (blkOk_by (own := [("_law_old", 3)]) (N := nmRe) (sc := defScope sRen) (by decide +kernel)) (fun _ _ _ _ _ => pg_name (i := 3) scRe.nd rfl (Or.inl rfl)) (fun _ _ _ _ _ => pts_nil)
        (fun _ _ _ _ _ => pe_lc (own := [("_law_there", 4), ("_law_sends", 5)]) rfl scRe.nd (pi_list (pe_ix (r := rIxL K) ix_list (pv 1) (pv 3) (fun _ _ => rfl)))
          (blkOk_by (own := [("_law_there", 4), ("_law_sends", 5)]) (N := nmRe) (sc := scRe1) (by decide +kernel))
          (fun _ _ _ _ _ => pg_tup rfl (pgs_cons (pg_name (i := 4) scRe.nd rfl (Or.inl rfl)) (pgs_cons (pg_name (i := 5) scRe.nd rfl (Or.inl rfl)) pgs_nil))) (fun _ _ _ _ _ => pts_nil)
          (fun _ _ _ _ _ => pe_tup (pa_cons (pe_bm PySem.F.plainAttrs_list PySem.F.slot_list_index PySem.F.type_list_index mt_index (pv 2) (pa_cons (pv 4) pa_nil)) (pa_cons (pv 5) pa_nil))))))), ?_⟩
    obtain ⟨vr, hvr, pr⟩ := hT
    have lvr := pr.length
    refine ⟨(by show 1 ≤ sizeLine; decide), fun z nz => ?_⟩
    have s1 := same_upd (o := .lst (([0] : List Int).map V.int)) nz
    refine ⟨_, rfl, _, rfl, a, _, rfl, .inl (SqL.of (s1 _ _ hvr)), 1, _, rfl, rfl, RgOk.of_le (by decide) (by omega) (by decide) (by omega), fun r nr => ?_⟩
    have s2 := same_upd (o := .lst (rgV 1 (vr.length : Int))) nr
    have s12 := s1.trans s2
    refine ⟨p, l, r, _, rfl, dl.same s12, upd_same, ?_, ?_, fun H3 S ys k3 dl3 nS hS pm => ?_⟩
    · intro v hv a' e
      unfold rgV at hv
      obtain ⟨i, _, rfl⟩ := List.mem_map.mp hv
      cases e
    · rw [rgV_length]
      omega
    have hz3 := k3.keep _ _ (nd_ints (ns := [0])) (s2 _ _ upd_same)
    have e1 : ((vr.length : Int) - 1).toNat = rows.length - 1 := by omega
    unfold rgV at pm
    rw [e1] at pm
    obtain ⟨o', rfl, po⟩ := perm_nats pm
    have lo' : o'.length = rows.length - 1 := by rw [po.length_eq, List.length_map, List.length_range]
    refine ⟨z, S, _, _, rfl, rfl, hz3, hS, ?_, fun O nO => ?_⟩
    · show 1 + (natV o').length ≤ sizeLine
      unfold natV
      rw [List.length_map]
      exact Nat.le_of_lt (small1000 (by omega))
    have pord := perm_ord n1 po
    have eO : (([0] : List Int).map V.int) ++ natV o' = natV (0 :: o') := rfl
    rw [eO]
    have s4 := same_upd (o := .lst (natV (0 :: o'))) nO
    have k4 := ((Kp.of s12).trans k3).trans (Kp.of s4)
    have dl4 := dl3.same s4
    have hO : (upd H3 O (.lst (natV (0 :: o')))) O = some (.lst (natV (0 :: o'))) := upd_same
    have h0 : (0 :: o')[0]? = some 0 := rfl
    have lord : (0 :: o').length = rows.length := by rw [pord.length_eq, List.length_range]
    have hvr4 := k4.keep _ _ (nd_rows pr) hvr
    have pr4 := paired_mono (fun _ _ => RowAt.kp k4) pr
    generalize (upd H3 O (.lst (natV (0 :: o')))) = H4 at *
    generalize (0 :: o') = ord at *
    have inord : ∀ t, t < rows.length → t ∈ ord := fun t ht => pord.symm.subset (List.mem_range.mpr ht)
    refine ⟨_, rfl, O, rfl, ⟨_, SqL.of hO⟩, fun D nD => ?_⟩
    have sD := same_upd (o := .lst []) nD
    have nD0 := k4.free _ nD
    refine lc_list (K := K) (a := O) (xs := natV ord) (fun i H' => ∃ vs : List V, Same H4 H' ∧ H' D = some (.lst vs) ∧ Paired (RowAt (st [D] H')) vs ((renum ord rows).take i)) ⟨[], sD, upd_same, by rw [List.take_zero]; exact .nil⟩ (fun i H' _ ⟨_, sm, _⟩ => SqL.of (sm _ _ hO)) ?_ ?_
    · rintro i x H5 hx ⟨vs, sm, hD, pp⟩
      obtain ⟨ol, hol, rfl⟩ := natV_get hx
      have ollt : ol < rows.length := List.mem_range.mp (pord.subset (List.mem_of_getElem? hol))
      have hrow : rows[ol]? = some rows[ol] := List.getElem?_eq_getElem ollt
      have rowin : rows[ol] ∈ rows := List.getElem_mem ollt
      generalize rows[ol] = row at hrow rowin
      obtain ⟨v, hv, b, us0, rfl, hb, pe⟩ := paired_get2 pr4 ol row hrow
      obtain ⟨rl, re⟩ := rok row rowin
      have leu := pe.length
      have ilt : i < ord.length := (List.getElem?_eq_some_iff.mp hol).1
      have lvs := pp.length
      rw [List.length_take] at lvs
      refine ⟨rfl, ?_⟩
      refine ⟨_, rfl, _, rfl, a, _, _, _, rfl, rfl, SqL.of (sm _ _ hvr4), atI_nat (j := ol) hv, b, rfl, ⟨_, SqL.of (sm _ _ hb)⟩, fun D2 nD2 => ?_⟩
      have sD2 := same_upd (o := .lst []) nD2
      have nD2D : D2 ≠ D := ne_of_fresh hD nD2
      refine lc_list (K := K) (a := b) (xs := us0) (fun j H' => ∃ us : List V, Same H5 H' ∧ H' D2 = some (.lst us) ∧ Paired (EntAt (st [D2, D] H')) us ((renRow ord row).take j)) ⟨[], sD2, upd_same, by rw [List.take_zero]; exact .nil⟩ (fun j H' _ ⟨_, sm', _⟩ => SqL.of (sm' _ _ (sm _ _ hb))) ?_ ?_
      · rintro j x H6 hx6 ⟨us, sm6, hD6, pp6⟩
        obtain ⟨e, hej, c, t, rfl, hc, ht⟩ := paired_get pe j _ hx6
        have jlt : j < row.length := (List.getElem?_eq_some_iff.mp hej).1
        obtain ⟨tn, htn, tlt⟩ := re e (List.mem_of_getElem? hej)
        have tin := inord tn tlt
        have sm46 := sm.trans sm6
        have lus := pp6.length
        rw [List.length_take] at lus
        refine ⟨c, _, rfl, SqT.of (sm46 _ _ hc), rfl, _, _, rfl, _, _, rfl, rfl, ?_⟩
        refine ⟨rfl, ?_⟩
        refine ⟨_, rfl, .inl ⟨rfl, _, SqL.of (sm46 _ _ hO)⟩, _, rfl, O, natV ord, .int e.1, pos' ord tn, .int (tn : Nat), rfl, rfl, SqL.of (sm46 _ _ hO), rfl, natV_flat _, ?_, ?_, ?_, ?_⟩
        · unfold natV
          rw [List.getElem?_map, pos_get tin]
          rfl
        · rw [htn]
          simp [eqV]
        · intro m z' hm hz'
          obtain ⟨s', hs', rfl⟩ := natV_get hz'
          have := pos_no hm hs'
          rw [htn]
          simp [eqV]
          omega
        · refine ⟨_, rfl, (by show 2 ≤ sizeLine; decide), fun T nT => ?_⟩
          have sT := same_upd (o := .tup [.int (pos' ord tn), .ref t]) nT
          refine ⟨_, sT _ _ hD6, small1000 (by omega), us ++ [.ref T], (sm6.trans sT).put nD2, upd_same, ?_⟩
          rw [st_upd (by simp)]
          have nTD2 : T ≠ D2 := ne_of_fresh hD6 nT
          have nTD : T ≠ D := ne_of_fresh (sm6 _ _ hD) nT
          have ntD2 : t ≠ D2 := ne_of_none (sm _ _ ht) nD2
          have ntD : t ≠ D := ne_of_none ht nD
          have ej : (renRow ord row)[j]? = some ((pos' ord tn : Int), e.2) := by
            unfold renRow
            rw [List.getElem?_map, hej]
            show some ((pos' ord e.1.toNat : Int), e.2) = _
            rw [htn]
            rfl
          rw [List.take_add_one, ej]
          refine paired_snoc (paired_mono (fun _ _ => EntAt.same (st_mono sT)) pp6) ⟨T, t, rfl, ?_, ?_⟩
          · rw [st_get (by simp [nTD2, nTD])]
            exact upd_same
          · rw [st_get (by simp [ntD2, ntD])]
            exact sT _ _ (sm46 _ _ ht)
      · rintro H6 ⟨us, sm6, hD6, pp6⟩
        have lrr : (renRow ord row).length = row.length := by
          unfold renRow
          rw [List.length_map]
        rw [List.take_of_length_le (by omega)] at pp6
        refine ⟨_, sm6 _ _ hD, small1000 (by omega), vs ++ [.ref D2], (sm.trans sm6).put nD, upd_same, ?_⟩
        rw [st_upd (by simp)]
        have ei : (renum ord rows)[i]? = some (renRow ord row) := by
          unfold renum
          rw [List.getElem?_map, hol]
          show some (renRow ord ((rows[ol]?).getD [])) = _
          rw [hrow]
          rfl
        rw [List.take_add_one, ei]
        refine paired_snoc (paired_mono (fun _ _ => RowAt.same (st_mono sm6)) pp) ⟨D2, us, rfl, ?_, paired_mono (fun _ _ => EntAt.same st_sub) pp6⟩
        rw [st_get (by simp [nD2D])]
        exact hD6
    · rintro H5 ⟨vs, sm, hD, pp⟩
      have lre : (renum ord rows).length = ord.length := by
        unfold renum
        rw [List.length_map]
      have lnat : (natV ord).length = ord.length := by
        unfold natV
        rw [List.length_map]
      rw [lnat, List.take_of_length_le (by omega)] at pp
      exact q H5 D ord (k4.trans (Kp.of sm)) (dl4.same sm) nD0 ⟨vs, hD, paired_mono (fun _ _ => RowAt.same st_same) pp⟩ pord h0
end
end Hl

set_option Elab.async false
set_option linter.all false
set_option maxRecDepth 100000
set_option maxHeartbeats 4000000
namespace Hl
open PySem PySem.Spec PyProof.Rows L2
abbrev sDev : Stmt := topS 31
abbrev sAny : Stmt := topS 32
/-! rules as data for == -/
def pD (p : Str × Int) : PyData := .tuple [.str p.1, .int p.2]
def moD : Option Int → PyData
  | none => .none
  | some k => .int k
def rlD (r : Rl) : PyData := .tuple [.str "each", .int r.e, .int r.a, .tuple (r.ws.map pD), .tuple (r.gs.map pD), moD r.m]
section
variable {K : PySem.W.Frag} {H : Hp}
theorem pairs_dp : ∀ {vs : List V} {ps : List (Str × Int)}, Paired (PairAt H) vs ps → DpAll K H vs (ps.map pD)
  | _, _, .nil => .nil
  | _, _, .cons ⟨a, e, h⟩ r => by
    rw [e]
    exact .cons (.tup (SqT.of h) (.cons (.str _) (.cons (.int _) .nil))) (pairs_dp r)
theorem rule_dp {v : V} {r : Rl} (h : RuleAt H v r) : Dp K H v (rlD r) := by
  obtain ⟨t, wt', gt, rfl, ht, ⟨wv, hw, pw⟩, ⟨gv, hg, pg⟩⟩ := h
  refine .tup (SqT.of ht) (.cons (.str _) (.cons (.int _) (.cons (.int _) (.cons (.tup (SqT.of hw) (pairs_dp pw)) (.cons (.tup (SqT.of hg) (pairs_dp pg)) (.cons ?_ .nil))))))
  cases r.m with
  | none => exact .non
  | some k => exact .int k
theorem rules_dp : ∀ {vs : List V} {rs : List Rl}, Paired (RuleAt H) vs rs → DpAll K H vs (rs.map rlD)
  | _, _, .nil => .nil
  | _, _, .cons a r => .cons (rule_dp a) (rules_dp r)
end
def NmG (r : Rl) : Prop := (∀ p ∈ r.ws, Good p.1) ∧ ∀ p ∈ r.gs, Good p.1
theorem pairs_lay : ∀ ps : List (Str × Int), (∀ p ∈ ps, Good p.1) → PyData.canLayAll0 (ps.map pD) = true
  | [], _ => by simp [PyData.canLayAll0]
  | x :: s, h => by
    have h1 := strOk_good (h x List.mem_cons_self)
    have h2 := pairs_lay s fun n hn => h n (List.mem_cons_of_mem _ hn)
    simp [PyData.canLayAll0, PyData.canLay0, pD, h1, h2]
theorem pairs_depth : ∀ ps : List (Str × Int), PyData.depthAll (ps.map pD) ≤ 2
  | [] => by simp [PyData.depthAll]
  | x :: s => by
    have := pairs_depth s
    simp only [List.map_cons, PyData.depthAll, PyData.depth, pD]
    omega
theorem rlD_lay {r : Rl} (h : NmG r) : (rlD r).canLay0 = true := by
  have h1 := pairs_lay _ h.1
  have h2 := pairs_lay _ h.2
  have h3 : (moD r.m).canLay0 = true := by cases r.m <;> simp [moD, PyData.canLay0]
  have h4 : PyData.strOk "each" = true := by decide +kernel
  simp [rlD, PyData.canLay0, PyData.canLayAll0, h1, h2, h3, h4]
theorem rlD_depth (r : Rl) : (rlD r).depth ≤ 10 := by
  have h1 := pairs_depth r.ws
  have h2 := pairs_depth r.gs
  have h3 : (moD r.m).depth ≤ 1 := by cases r.m <;> simp [moD, PyData.depth]
  simp only [rlD, PyData.depth, PyData.depthAll]
  omega
theorem rls_lay : ∀ rs : List Rl, (∀ r ∈ rs, NmG r) → PyData.canLayAll0 (rs.map rlD) = true
  | [], _ => by simp [PyData.canLayAll0]
  | x :: s, h => by
    have h1 := rlD_lay (h x List.mem_cons_self)
    have h2 := rls_lay s fun n hn => h n (List.mem_cons_of_mem _ hn)
    simp [PyData.canLayAll0, h1, h2]
theorem rls_depth : ∀ rs : List Rl, PyData.depthAll (rs.map rlD) ≤ 10
  | [] => by simp [PyData.depthAll]
  | x :: s => by
    have h1 := rls_depth s
    have h2 := rlD_depth x
    simp only [List.map_cons, PyData.depthAll]
    omega
theorem rls_shaped (rs : List Rl) (h : ∀ r ∈ rs, NmG r) : SeqAt.shaped (.list (rs.map rlD)) = true := by
  have h1 := rls_depth rs
  have h2 : PyData.depth (.list (rs.map rlD)) ≤ 64 := by
    simp only [PyData.depth]
    omega
  show (PyData.canLay0 (.list (rs.map rlD)) && decide (PyData.depth (.list (rs.map rlD)) ≤ 64)) = true
  rw [Bool.and_eq_true]
  exact ⟨by simp only [PyData.canLay0]; exact rls_lay rs h, decide_eq_true h2⟩
theorem rls_eqv_nil (s : List Rl) : PyData.eqv (.list (s.map rlD)) (.list []) = s.isEmpty := by
  cases s <;> simp [PyData.eqv, PyData.eqvAll]
theorem cutm1 (xs : List V) : cutV xs none (some (-1)) = xs.dropLast := by
  unfold cutV
  rw [HT.sIx_none, List.drop_zero, Nat.sub_zero, List.dropLast_eq_take]
  congr 1
  show (if (-1 : Int) < 0 then ((-1 : Int) + (xs.length : Int)).toNat else min (-1 : Int).toNat xs.length) = xs.length - 1
  rw [if_pos (by decide)]
  omega
/-- all lists and tuples stay -/
structure Lt (H H' : Hp) : Prop where
  l : ∀ b xs, H b = some (.lst xs) → H' b = some (.lst xs)
  t : ∀ b xs, H b = some (.tup xs) → H' b = some (.tup xs)
theorem TabAt.lt {H H' : Hp} {a : Addr} {tab : Tab} (k : Lt H H') (h : TabAt H a tab) : TabAt H' a tab := by
  obtain ⟨vs, h1, h2⟩ := h
  refine ⟨vs, k.l _ _ h1, paired_mono (fun v row hr => ?_) h2⟩
  obtain ⟨b, us, e, h3, h4⟩ := hr
  refine ⟨b, us, e, k.l _ _ h3, paired_mono (fun v e he => ?_) h4⟩
  obtain ⟨c, t, e1, h5, h6⟩ := he
  exact ⟨c, t, e1, k.t _ _ h5, k.t _ _ h6⟩
theorem PairsAt.tp {H H' : Hp} {a : Addr} {ps : List (Str × Int)} (k : ∀ b xs, H b = some (.tup xs) → H' b = some (.tup xs)) (h : PairsAt H a ps) : PairsAt H' a ps := by
  obtain ⟨vs, h1, h2⟩ := h
  refine ⟨vs, k _ _ h1, paired_mono (fun v p hp => ?_) h2⟩
  obtain ⟨b, e, h3⟩ := hp
  exact ⟨b, e, k _ _ h3⟩
theorem RuleAt.tp {H H' : Hp} {v : V} {r : Rl} (k : ∀ b xs, H b = some (.tup xs) → H' b = some (.tup xs)) (h : RuleAt H v r) : RuleAt H' v r := by
  obtain ⟨t, wt', gt, e, h1, h2, h3⟩ := h
  exact ⟨t, wt', gt, e, k _ _ h1, h2.tp k, h3.tp k⟩
theorem tp_put {H : Hp} {D : Addr} {xs : List V} {o : HO} (h : H D = some (.lst xs)) : ∀ b ys, H b = some (.tup ys) → (upd H D o) b = some (.tup ys) := fun b ys e => by
  have : b ≠ D := fun z => by
    rw [z, h] at e
    cases e
  rw [upd_ne this]
  exact e
theorem refs_of_rules {H : Hp} : ∀ {vs : List V} {ps : List Rl}, Paired (RuleAt H) vs ps → ∃ as : List Addr, vs = as.map V.ref
  | _, _, .nil => ⟨[], rfl⟩
  | _, _, .cons ⟨a, _, _, e, _⟩ r => by
    obtain ⟨as, h⟩ := refs_of_rules r
    exact ⟨a :: as, by rw [e, h]; rfl⟩
theorem nd_rules {H : Hp} {vs : List V} {ps : List Rl} (h : Paired (RuleAt H) vs ps) : Nd (.lst vs) := by
  obtain ⟨as, rfl⟩ := refs_of_rules h
  exact nd_refs
theorem RulesAt.kp {H H' : Hp} {a : Addr} {rs : List Rl} (k : Kp H H') (h : RulesAt H a rs) : RulesAt H' a rs := by
  obtain ⟨vs, h1, h2⟩ := h
  exact ⟨vs, k.keep _ _ (nd_rules h2) h1, paired_mono (fun _ _ => RuleAt.kp k) h2⟩
theorem paired_dropLast {α β : Type} {R : α → β → Prop} {xs : List α} {ys : List β} (h : Paired R xs ys) : Paired R xs.dropLast ys.dropLast := by
  induction h with
  | nil => exact .nil
  | cons a r ih =>
    cases r with
    | nil => exact .nil
    | cons b r2 => exact .cons a ih
section
variable {P : Program} {w : World} {K : PySem.W.Frag} {mg : Str → Option Value} {base : Heap}
structure RsOk (rs : List Rl) (outs : List Str) : Prop where
  ok : ∀ r ∈ rs, OkR r
  go : ∀ r ∈ rs, ∀ p ∈ r.gs, p.1 ∈ outs
  ng : ∀ r ∈ rs, NmG r
/-- what _law_raw has left -/
def Out (ins outs : List Str) (most : Nat) (H : Hp) (rs : List Rl) (v : V) : Prop :=
  (v = .non ∧ rs ≠ []) ∨ ∃ (t : Addr) (stands : List (List Int)) (rows : Tab), v = .ref t ∧ TabAt H t rows ∧ RInv rs ins outs stands rows ∧ rows.length = stands.length ∧ stands.length ≤ most
theorem RsOk.nil (outs : List Str) : RsOk [] outs := ⟨(fun r h => by cases h), (fun r h => by cases h), (fun r h => by cases h)⟩
theorem RsOk.cons {r : Rl} {rs : List Rl} {outs : List Str} (h1 : OkR r) (h2 : ∀ p ∈ r.gs, p.1 ∈ outs) (h3 : NmG r) (h : RsOk rs outs) : RsOk (r :: rs) outs := by
  refine ⟨fun x hx => ?_, fun x hx => ?_, fun x hx => ?_⟩
  · rcases List.mem_cons.mp hx with rfl | hx
    · exact h1
    · exact h.ok x hx
  · rcases List.mem_cons.mp hx with rfl | hx
    · exact h2
    · exact h.go x hx
  · rcases List.mem_cons.mp hx with rfl | hx
    · exact h3
    · exact h.ng x hx
theorem RsOk.snoc {r : Rl} {rs : List Rl} {outs : List Str} (h1 : OkR r) (h2 : ∀ p ∈ r.gs, p.1 ∈ outs) (h3 : NmG r) (h : RsOk rs outs) : RsOk (rs ++ [r]) outs := by
  refine ⟨fun x hx => ?_, fun x hx => ?_, fun x hx => ?_⟩
  · rcases List.mem_append.mp hx with hx | hx
    · exact h.ok x hx
    · rw [List.mem_singleton.mp hx]
      exact h1
  · rcases List.mem_append.mp hx with hx | hx
    · exact h.go x hx
    · rw [List.mem_singleton.mp hx]
      exact h2
  · rcases List.mem_append.mp hx with hx | hx
    · exact h.ng x hx
    · rw [List.mem_singleton.mp hx]
      exact h3
theorem RsOk.drop {rs : List Rl} {outs : List Str} (h : RsOk rs outs) : RsOk rs.dropLast outs :=
  ⟨fun x hx => h.ok x ((List.dropLast_sublist rs).subset hx), fun x hx => h.go x ((List.dropLast_sublist rs).subset hx), fun x hx => h.ng x ((List.dropLast_sublist rs).subset hx)⟩
def devD (i o q : Addr) : HO := .dK [(Sum.inr "ins", .ref i), (Sum.inr "outs", .ref o), (Sum.inr "rows", .ref q)]
def spDev : Sp := fun vs H Q _ => ∃ (p l i o : Addr) (ins outs : List Str) (most : Nat), vs = [.ref p, .ref i, .ref o, .int most] ∧ Deal H p l ∧ H i = some (.lst (ins.map V.str)) ∧ H o = some (.lst (outs.map V.str)) ∧
  1 ≤ ins.length ∧ ins.length ≤ 3 ∧ outs.length ≤ 3 ∧ (∀ n ∈ ins, Good n) ∧ (∀ n ∈ outs, Good n) ∧ 1 ≤ most ∧ most ≤ 60 ∧
  ∀ (H' : Hp) (m q : Addr) (rs : List Rl) (stands : List (List Int)) (rows : Tab) (ord : List Nat), Kp H H' → Deal H' p l → H m = none → H' m = some (devD i o q) → TabAt H' q (renum ord rows) → RsOk rs outs → rs.length ≤ 4 → RInv rs ins outs stands rows → rows.length = stands.length → stands.length ≤ most →
    ord.Perm (List.range rows.length) → ord[0]? = some 0 → Q (.ref m) H'
abbrev nmDe : List Str := ["_law_deal_here", "_law_ins", "_law_outs", "_law_most", "_law_rules", "_law_ring", "_law_rows", "_law_k", "_law_name"]
theorem scDe : FnScope nmDe ["_law_deal_here", "_law_ins", "_law_outs", "_law_most"] (defScope sDev) := ⟨rfl, rfl, rfl, by decide +kernel, rfl, by decide +kernel, by decide +kernel⟩
theorem ok_dev {f fK fL fA fN : Addr} {fd fdK fdL fdA fdN : FuncData} {k : Nat} (F : Fun K "_law_device" "_law_device" sDev f fd)
    (GK : FnOk P w K mg base CX0 k fK fdK ["_law_deal_here", "_law_many"] spPick) (kK : PySem.W.keepIn K (.ref fK) = true) (bK : Binds K fdK ["_law_deal_here", "_law_many"] []) (gK : mg "_law_pick" = some (.ref fK))
    (GL : FnOk P w K mg base CX0 k fL fdL ["_law_deal_here", "_law_ins", "_law_outs"] spRule) (kL : PySem.W.keepIn K (.ref fL) = true) (bL : Binds K fdL ["_law_deal_here", "_law_ins", "_law_outs"] []) (gL : mg "_law_rule" = some (.ref fL))
    (GA : FnOk P w K mg base CX0 k fA fdA ["_law_rules", "_law_ins", "_law_outs", "_law_most"] (spRaw K)) (kA : PySem.W.keepIn K (.ref fA) = true) (bA : Binds K fdA ["_law_rules", "_law_ins", "_law_outs", "_law_most"] []) (gA : mg "_law_raw" = some (.ref fA))
    (GN : FnOk P w K mg base CX0 k fN fdN ["_law_deal_here", "_law_rows"] spRen) (kN : PySem.W.keepIn K (.ref fN) = true) (bN : Binds K fdN ["_law_deal_here", "_law_rows"] []) (gN : mg "_law_renumbered" = some (.ref fN)) (B : Bi mg) (J : Bj mg) :
    FnOk P w K mg base CX0 (k + 1) f fd ["_law_deal_here", "_law_ins", "_law_outs", "_law_most"] spDev := by
  refine F.ok scDe (fun vs H Q E h => ?_) (fun cdv A outer s H vs Q E hr h => ?_)
  · obtain ⟨p, l, i, o, ins, outs, most, rfl, _⟩ := h
    rfl
  · obtain ⟨p, l, i, o, ins, outs, most, rfl, dl, hi, ho, i1, i3, o3, ig, og, m1, m60, q⟩ := h
    refine ⟨_, Evl.pss_cut (ps_set (i := 4) scDe.nd rfl (.inl rfl) (pe_ifExp (pt_cmpR (op_neD hr.units) (pv 2) (pe_lst pa_nil) (nomark _))
        (pe_lc (own := [("_law_k", 7)]) (g := gName 7) rfl scDe.nd (pi_range1 (by rfl) B.rng (pa_cons (pe_op op_add pe_int (pe_call GK hr (by rfl) gK kK bK .nil pass0 (pa_cons (pv 0) (pa_cons pe_int pa_nil)))) pa_nil))
          (blkOk_by (own := [("_law_k", 7)]) (N := nmDe) (sc := defScope sDev) (by decide +kernel)) (fun _ _ _ _ _ => pg_name (i := 7) scDe.nd rfl (Or.inl rfl)) (fun _ _ _ _ _ => pts_nil)
          (fun _ _ _ _ _ => pe_call GL hr (by rfl) gL kL bL .nil pass0 (pa_cons (pv 0) (pa_cons (pv 1) (pa_cons (pv 2) pa_nil)))))
        (pe_lst pa_nil)))
      (pss_cons (ps_set (i := 5) scDe.nd rfl (.inl rfl) (pe_tup (pa_cons pe_str (pa_cons (pe_op op_add pe_int (pe_call GK hr (by rfl) gK kK bK .nil pass0 (pa_cons (pv 0) (pa_cons pe_int pa_nil)))) (pa_cons (pe_call GK hr (by rfl) gK kK bK .nil pass0 (pa_cons (pv 0) (pa_cons pe_int pa_nil)))
        (pa_cons (pe_callTy call_tuple_of (by rfl) B.tup (by decide +kernel) (pa_cons (pe_lc (own := [("_law_name", 8)]) (g := gName 8) rfl scDe.nd (pi_list (pe_callB cr_sortedS (by rfl) J.sorted (by decide +kernel) (pa_cons (pv 1) pa_nil)))
          (blkOk_by (own := [("_law_name", 8)]) (N := nmDe) (sc := defScope sDev) (by decide +kernel)) (fun _ _ _ _ _ => pg_name (i := 8) scDe.nd rfl (Or.inl rfl)) (fun _ _ _ _ _ => pts_nil) (fun _ _ _ _ _ => pe_tup (pa_cons (pv 8) (pa_cons pe_int pa_nil)))) pa_nil))
        (pa_cons (pe_tup pa_nil) (pa_cons pe_non pa_nil))))))))
      (Evl.pss_cut (ps_if (PW.pt (pw_or (pt_cmpR op_eq (pe_call GK hr (by rfl) gK kK bK .nil pass0 (pa_cons (pv 0) (pa_cons pe_int pa_nil))) pe_int (nomark _)) (pw_or1 (pt_cmpR (op_eqD hr.units) (pv 4) (pe_lst pa_nil) (nomark _))))) (pss_one (ps_set (i := 4) scDe.nd rfl (.inl rfl) (pe_op op_cat (pe_lst (pa_cons (pv 5) pa_nil)) (pv 4)))) pss_nil)
      (Evl.pss_cut (ps_set (i := 6) scDe.nd rfl (.inl rfl) (pe_call GA hr (by rfl) gA kA bA .nil pass0 (pa_cons (pv 4) (pa_cons (pv 1) (pa_cons (pv 2) (pa_cons (pv 3) pa_nil))))))
      (pss_cons (ps_while PassesOwn.never (pt_cmpR op_isN (pv 6) pe_non (nomark _)) (pss_cons (ps_set (i := 4) scDe.nd rfl (.inl rfl) (pe_slice sl_list (pv 4) po_none (po_some (pe_un un_neg pe_int)))) (pss_one (ps_set (i := 6) scDe.nd rfl (.inl rfl) (pe_call GA hr (by rfl) gA kA bA .nil pass0 (pa_cons (pv 4) (pa_cons (pv 1) (pa_cons (pv 2) (pa_cons (pv 3) pa_nil)))))))))
      (pss_one (ps_ret (pe_disp (pps_cons pe_str (pv 1) (pps_cons pe_str (pv 2) (pps_cons pe_str (pe_call GN hr (by rfl) gN kN bN .nil pass0 (pa_cons (pv 0) (pa_cons (pv 6) pa_nil))) pps_nil))) (by rfl) (by rfl) (fun z => by cases z) (by decide)))))))), ?_⟩
    -- the rules
    refine ⟨fun σ' H' => ∃ (ar : Addr) (rs : List Rl), σ' = [some (.ref p), some (.ref i), some (.ref o), some (.int most), some (.ref ar), none, none, none, none] ∧ Kp H H' ∧ Deal H' p l ∧ RulesAt H' ar rs ∧ RsOk rs outs ∧ rs.length ≤ 3, ?_, ?_⟩
    · refine ⟨_, rfl, Nat.zero_le _, fun z nz => ?_⟩
      have sz := same_upd (o := .lst []) nz
      have dlz := dl.same sz
      refine ⟨.list (outs.map PyData.str), .list [], .lst (SqL.of (sz _ _ ho)) (strs_dp _), .lst (SqL.of upd_same) .nil, strs_shaped _ og, strs_shaped [] (fun n hn => by cases hn), _, rfl, ?_⟩
      rw [strs_eqv_nil]
      refine ite2 (fun e => ?_) (fun e => ?_)
      · refine ⟨_, rfl, p, l, 3, rfl, dlz, by decide, lg (b := 11) (by decide) (by decide) (by decide), fun H2 r k2 dl2 r0 r1 => ?_⟩
        obtain ⟨rn, rfl⟩ := Int.eq_ofNat_of_zero_le r0
        refine ⟨_, _, rfl, rfl, ((1 + rn : Nat) : Int), by rw [Int.natCast_add]; rfl, by omega, by omega, fun D nD => ?_⟩
        have sD := same_upd (o := .lst []) nD
        have nDp := dl2.ne nD
        have nDl := dl2.nl nD
        have k02 := (Kp.of sz).trans k2
        refine lc_range (lo := 0) (n := 1 + rn) (fun j H' => ∃ (vs : List V) (rs : List Rl), Kp H2 H' ∧ Deal H' p l ∧ H' D = some (.lst vs) ∧ Paired (RuleAt H') vs rs ∧ RsOk rs outs ∧ rs.length = j) ⟨[], [], Kp.of sD, dl2.same sD, upd_same, .nil, RsOk.nil outs, rfl⟩ ?_ ?_
        · rintro j H3 hj ⟨vs, rs, k3, dl3, hD, pp, ok, lj⟩
          have k03 := k02.trans k3
          refine ⟨rfl, ?_⟩
          refine ⟨_, rfl, _, rfl, _, rfl, p, l, i, o, ins, outs, rfl, dl3, k03.keep _ _ nd_strs hi, k03.keep _ _ nd_strs ho, i3, o3, ig, og, fun H4 v r k4 dl4 ra okr go wi => ?_⟩
          have hD4 := k4.keep _ _ (nd_rules pp) hD
          have lv := pp.length
          refine ⟨_, hD4, small1000 (by omega), vs ++ [v], rs ++ [r], (k3.trans k4).put nD, dl4.put nDp nDl, upd_same, ?_, RsOk.snoc okr go ⟨fun q hq => ig _ (wi q hq), fun q hq => og _ (go q hq)⟩ ok, by rw [List.length_append, lj]; rfl⟩
          exact paired_snoc (paired_mono (fun _ _ h => RuleAt.tp (tp_put hD4) (RuleAt.kp k4 h)) pp) (ra.tp (tp_put hD4))
        · rintro H3 ⟨vs, rs, k3, dl3, hD, pp, ok, lj⟩
          exact ⟨D, rs, rfl, k02.trans k3, dl3, ⟨vs, hD, pp⟩, ok, by omega⟩
      · refine ⟨Nat.zero_le _, fun z2 nz2 => ?_⟩
        have sz2 := same_upd (o := .lst []) nz2
        exact ⟨z2, [], rfl, Kp.of (sz.trans sz2), dl.same (sz.trans sz2), ⟨[], upd_same, .nil⟩, RsOk.nil outs, by decide⟩
    rintro σ' H1 ⟨ar, rs, rfl, k1, dl1, hR, ok, l3⟩
    -- the ring
    refine ⟨_, rfl, p, l, 4, rfl, dl1, by decide, lg (b := 11) (by decide) (by decide) (by decide), fun H2 r1 k2 dl2 c0 c1 => ?_⟩
    refine ⟨_, _, rfl, rfl, _, rfl, p, l, 2, rfl, dl2, by decide, lg (b := 11) (by decide) (by decide) (by decide), fun H3 r2 k3 dl3 d0 d1 => ?_⟩
    have k13 := (k1.trans k2).trans k3
    refine ⟨_, rfl, i, ins, rfl, SqL.of (k13.keep _ _ nd_strs hi), by omega, fun ys q1 pm _ nq1 => ?_⟩
    have sq := same_upd (o := .lst (ys.map V.str)) nq1
    have yl : ys.length ≤ 3 := by
      rw [pm.length_eq]
      exact i3
    have hq1 : (upd H3 q1 (.lst (ys.map V.str))) q1 = some (.lst (ys.map V.str)) := upd_same
    have dl3' := dl3.same sq
    have k13' := k13.trans (Kp.of sq)
    generalize (upd H3 q1 (.lst (ys.map V.str))) = H3' at *
    refine ⟨q1, rfl, ⟨_, SqL.of hq1⟩, fun D nD => ?_⟩
    have sD := same_upd (o := .lst []) nD
    refine lc_list (K := K) (a := q1) (xs := ys.map V.str) (fun j H' => ∃ vs : List V, Same H3' H' ∧ H' D = some (.lst vs) ∧ Paired (PairAt (st [D] H')) vs ((ys.take j).map fun n => (n, (1 : Int)))) ⟨[], sD, upd_same, by rw [List.take_zero]; exact .nil⟩ (fun j H' _ ⟨_, sm, _⟩ => SqL.of (sm _ _ hq1)) ?_ ?_
    · rintro j x H' hx ⟨vs, sm, hD, pp⟩
      obtain ⟨nm, hnm, rfl⟩ := map_str_get hx
      have lv := pp.length
      rw [List.length_map, List.length_take] at lv
      refine ⟨rfl, ?_⟩
      refine ⟨_, rfl, (by show 2 ≤ sizeLine; decide), fun T nT => ?_⟩
      have sT := same_upd (o := .tup [.str nm, .int 1]) nT
      have nTD : T ≠ D := ne_of_fresh hD nT
      refine ⟨_, sT _ _ hD, small1000 (by omega), vs ++ [.ref T], (sm.trans sT).put nD, upd_same, ?_⟩
      rw [st_upd (by simp), List.take_add_one, hnm, List.map_append]
      refine paired_snoc (paired_mono (fun _ _ h => ?_) pp) ⟨T, rfl, by rw [st_get (by simp [nTD])]; exact upd_same⟩
      obtain ⟨b, e, h⟩ := h
      exact ⟨b, e, st_mono sT _ _ h⟩
    rintro H4 ⟨vs, sm4, hD4, pp4⟩
    rw [List.length_map, List.take_length] at pp4
    refine ⟨D, _, rfl, .inl ⟨SqL.of hD4, fun t nt => ?_⟩⟩
    have st' := same_upd (o := .tup vs) nt
    refine ⟨Nat.zero_le _, fun e0 ne0 => ?_⟩
    have se := same_upd (o := .tup []) ne0
    refine ⟨(by show 6 ≤ sizeLine; decide), fun g ng => ?_⟩
    have sg := same_upd (o := .tup [.str "each", .int (1 + r1), .int r2, .ref t, .ref e0, .non]) ng
    have s35 := sm4.trans (st'.trans (se.trans sg))
    have k5 := k13'.trans (Kp.of s35)
    have dl5 := dl3'.same s35
    have pw : PairsAt (upd (upd (upd H4 t (.tup vs)) e0 (.tup [])) g (.tup [.str "each", .int (1 + r1), .int r2, .ref t, .ref e0, .non])) t (ys.map fun n => (n, (1 : Int))) :=
      ⟨vs, sg _ _ (se _ _ upd_same), paired_mono (fun _ _ ⟨b, e, h⟩ => ⟨b, e, sg _ _ (se _ _ (st' _ _ (st_same _ _ h)))⟩) pp4⟩
    have pg : PairsAt (upd (upd (upd H4 t (.tup vs)) e0 (.tup [])) g (.tup [.str "each", .int (1 + r1), .int r2, .ref t, .ref e0, .non])) e0 [] := ⟨[], sg _ _ upd_same, .nil⟩
    obtain ⟨ring, hring⟩ : ∃ ring : Rl, ring = ⟨1 + r1, r2, none, ys.map fun n => (n, (1 : Int)), []⟩ := ⟨_, rfl⟩
    have ra5 : RuleAt (upd (upd (upd H4 t (.tup vs)) e0 (.tup [])) g (.tup [.str "each", .int (1 + r1), .int r2, .ref t, .ref e0, .non])) (.ref g) ring := by
      rw [hring]
      exact ⟨g, t, e0, rfl, upd_same, pw, pg⟩
    have okring : OkR ring := by
      rw [hring]
      refine ⟨⟨by show 1 ≤ 1 + r1; omega, by show 1 + r1 ≤ 4; omega, d0, by show r2 ≤ 2; omega, .inl rfl⟩, ?_, ?_, by show 0 ≤ 3; decide, fun q hq => by cases hq⟩
      · show (ys.map _).length ≤ 3
        rw [List.length_map]
        exact yl
      · intro q hq
        obtain ⟨n, _, rfl⟩ := List.mem_map.mp hq
        exact ⟨by show (0 : Int) ≤ 1; decide, by show (1 : Int) ≤ 3; decide⟩
    have ngring : NmG ring := by
      rw [hring]
      refine ⟨fun q hq => ?_, fun q hq => by cases hq⟩
      obtain ⟨n, hn, rfl⟩ := List.mem_map.mp hq
      exact ig _ (pm.subset hn)
    have gring : ring.gs = [] := by rw [hring]
    have hR5 : RulesAt (upd (upd (upd H4 t (.tup vs)) e0 (.tup [])) g (.tup [.str "each", .int (1 + r1), .int r2, .ref t, .ref e0, .non])) ar rs := hR.kp (((k2.trans k3).trans (Kp.of sq)).trans (Kp.of s35))
    clear hring
    generalize (upd (upd (upd H4 t (.tup vs)) e0 (.tup [])) g (.tup [.str "each", .int (1 + r1), .int r2, .ref t, .ref e0, .non])) = H5 at *
    -- ring ahead, or not
    refine ⟨fun σ' H' => ∃ (ar : Addr) (rs : List Rl), σ' = [some (.ref p), some (.ref i), some (.ref o), some (.int most), some (.ref ar), some (.ref g), none, none, none] ∧ Kp H H' ∧ Deal H' p l ∧ RulesAt H' ar rs ∧ RsOk rs outs ∧ rs.length ≤ 4, ?_, ?_⟩
    · refine ⟨_, rfl, p, l, 3, rfl, dl5, by decide, lg (b := 11) (by decide) (by decide) (by decide), fun H6 r3 k6 dl6 f0 f1 => ?_⟩
      refine ⟨rfl, _, rfl, ite2 (fun e => ?_) (fun e => ?_)⟩
      · refine iteT ?_
        refine ⟨_, rfl, (by show 1 ≤ sizeLine; decide), fun z nz => ?_⟩
        have sz := same_upd (o := .lst [.ref g]) nz
        have kz := (k6).trans (Kp.of sz)
        obtain ⟨vr, hvr, pr⟩ := hR5.kp kz
        have lvr := pr.length
        refine ⟨_, rfl, z, ar, _, vr, rfl, rfl, upd_same, hvr, ?_, fun a2 na2 => ?_⟩
        · show 1 + vr.length ≤ sizeLine
          exact Nat.le_of_lt (small1000 (by omega))
        have s2 := same_upd (o := .lst ([.ref g] ++ vr)) na2
        have kk := kz.trans (Kp.of s2)
        exact ⟨a2, ring :: rs, rfl, k5.trans kk, (dl6).same (sz.trans s2), ⟨_, upd_same, .cons (ra5.kp kk) (paired_mono (fun _ _ => RuleAt.kp (Kp.of s2)) pr)⟩, RsOk.cons okring (fun q hq => by rw [gring] at hq; cases hq) ngring ok, by rw [List.length_cons]; omega⟩
      · refine ⟨_, rfl, Nat.zero_le _, fun zz nzz => ?_⟩
        have szz := same_upd (o := .lst []) nzz
        obtain ⟨vr0, hvr0, pr0⟩ := hR5.kp (k6.trans (Kp.of szz))
        refine ⟨.list (rs.map rlD), .list [], .lst (SqL.of hvr0) (rules_dp pr0), .lst (SqL.of upd_same) .nil, rls_shaped _ ok.ng, strs_shaped [] (fun n hn => by cases hn), _, rfl, ?_⟩
        rw [rls_eqv_nil]
        refine ite2 (fun e2 => ?_) (fun e2 => ?_)
        · skip
          refine ⟨_, rfl, (by show 1 ≤ sizeLine; decide), fun z nz => ?_⟩
          have sz := same_upd (o := .lst [.ref g]) nz
          have kz := (k6.trans (Kp.of szz)).trans (Kp.of sz)
          obtain ⟨vr, hvr, pr⟩ := hR5.kp kz
          have lvr := pr.length
          refine ⟨_, rfl, z, ar, _, vr, rfl, rfl, upd_same, hvr, ?_, fun a2 na2 => ?_⟩
          · show 1 + vr.length ≤ sizeLine
            exact Nat.le_of_lt (small1000 (by omega))
          have s2 := same_upd (o := .lst ([.ref g] ++ vr)) na2
          have kk := kz.trans (Kp.of s2)
          exact ⟨a2, ring :: rs, rfl, k5.trans kk, (dl6.same szz).same (sz.trans s2), ⟨_, upd_same, .cons (ra5.kp kk) (paired_mono (fun _ _ => RuleAt.kp (Kp.of s2)) pr)⟩, RsOk.cons okring (fun q hq => by rw [gring] at hq; cases hq) ngring ok, by rw [List.length_cons]; omega⟩
        · exact ⟨ar, rs, rfl, k5.trans (k6.trans (Kp.of szz)), dl6.same szz, ⟨vr0, hvr0, pr0⟩, ok, by omega⟩
    rintro σ' H6 ⟨ar6, rs6, rfl, k6, dl6, hR6, ok6, l6⟩
    -- the rows
    refine ⟨fun σ' H' => ∃ (ar : Addr) (rs : List Rl) (v6 : V) (v5 : Option V), σ' = [some (.ref p), some (.ref i), some (.ref o), some (.int most), some (.ref ar), v5, some v6, none, none] ∧ Kp H H' ∧ Deal H' p l ∧ RulesAt H' ar rs ∧ RsOk rs outs ∧ rs.length ≤ 4 ∧ Out ins outs most H' rs v6, ?_, ?_⟩
    · skip
      refine ⟨_, rfl, _, rfl, _, rfl, _, rfl, ar6, i, o, most, rs6, ins, outs, rfl, hR6, SqL.of ((k6).keep _ _ nd_strs hi), SqL.of ((k6).keep _ _ nd_strs ho), m1, by omega, by omega, by omega, by omega, fun r hr => ⟨(ok6).ok r hr, (ok6).go r hr⟩, fun Hy ne sm => ?_, fun Hy t stands rows sm nt tab inv hl hm => ?_⟩
      · exact ⟨ar6, rs6, .non, _, rfl, (k6).trans (Kp.of sm), (dl6).same sm, (hR6).kp (Kp.of sm), ok6, l6, .inl ⟨rfl, ne⟩⟩
      · exact ⟨ar6, rs6, .ref t, _, rfl, (k6).trans (Kp.of sm), (dl6).same sm, (hR6).kp (Kp.of sm), ok6, l6, .inr ⟨t, stands, rows, rfl, tab, inv, hl, hm⟩⟩
    rintro σ' H7 ⟨ar7, rs7, v7, w5, rfl, k7, dl7, hR7, ok7, l7, out7⟩
    refine ⟨fun m σ' H' => ∃ (ar : Addr) (rs : List Rl) (v6 : V) (v5 : Option V), σ' = [some (.ref p), some (.ref i), some (.ref o), some (.int most), some (.ref ar), v5, some v6, none, none] ∧ Kp H H' ∧ Deal H' p l ∧ RulesAt H' ar rs ∧ RsOk rs outs ∧ rs.length ≤ 4 ∧ Out ins outs most H' rs v6 ∧ m = rs.length, ⟨_, ar7, rs7, v7, w5, rfl, k7, dl7, hR7, ok7, l7, out7, rfl⟩, ?_⟩
    clear k7 dl7 hR7 ok7 l7 out7
    rintro m σ' H8 ⟨ar8, rs8, v8, w5', rfl, k8, dl8, hR8, ok8, l8, out8, rfl⟩
    refine ⟨_, rfl, rfl, _, rfl, ite2 (fun e => ?_) (fun e => ?_)⟩
    · have ev : v8 = .non := of_decide_eq_true e
      subst ev
      have hne : rs8 ≠ [] := by
        rcases out8 with ⟨_, h⟩ | ⟨t', _, _, h, _⟩
        · exact h
        · cases h
      have lpos : 0 < rs8.length := List.length_pos_iff.mpr hne
      obtain ⟨vr8, hvr8, pr8⟩ := hR8
      refine ⟨fun σ' H' => ∃ (ar : Addr) (rs : List Rl) (v6 : V) (v5 : Option V), σ' = [some (.ref p), some (.ref i), some (.ref o), some (.int most), some (.ref ar), v5, some v6, none, none] ∧ Kp H H' ∧ Deal H' p l ∧ RulesAt H' ar rs ∧ RsOk rs outs ∧ (rs.length ≤ 4 ∧ rs.length = rs8.length - 1) ∧ Out ins outs most H' rs v6,
        fun σ' H' ⟨a1, a2, a3, a4, a5, a6, a7, a8, a9, ⟨b1, b2⟩, b3⟩ => ⟨a2.length, by omega, a1, a2, a3, a4, a5, a6, a7, a8, a9, b1, b3, rfl⟩, ?_⟩
      refine ⟨_, rfl, _, rfl, _, rfl, ar8, vr8, rfl, SqL.of hvr8, fun a9 n9 => ?_⟩
      rw [cutm1]
      have s9 := same_upd (o := .lst vr8.dropLast) n9
      have k9 := k8.trans (Kp.of s9)
      have dl9 := dl8.same s9
      have hR9 : RulesAt (upd H8 a9 (.lst vr8.dropLast)) a9 rs8.dropLast := ⟨_, upd_same, paired_dropLast (paired_mono (fun _ _ => RuleAt.kp (Kp.of s9)) pr8)⟩
      have ok9 := ok8.drop
      have l9 : rs8.dropLast.length ≤ 4 ∧ rs8.dropLast.length = rs8.length - 1 := ⟨by rw [List.length_dropLast]; omega, List.length_dropLast⟩
      generalize (upd H8 a9 (.lst vr8.dropLast)) = H9 at *
      refine ⟨_, rfl, _, rfl, _, rfl, _, rfl, a9, i, o, most, rs8.dropLast, ins, outs, rfl, hR9, SqL.of ((k9).keep _ _ nd_strs hi), SqL.of ((k9).keep _ _ nd_strs ho), m1, by omega, by omega, by omega, by omega, fun r hr => ⟨(ok9).ok r hr, (ok9).go r hr⟩, fun Hy ne sm => ?_, fun Hy t stands rows sm nt tab inv hl hm => ?_⟩
      · exact ⟨a9, rs8.dropLast, .non, _, rfl, (k9).trans (Kp.of sm), (dl9).same sm, (hR9).kp (Kp.of sm), ok9, l9, .inl ⟨rfl, ne⟩⟩
      · exact ⟨a9, rs8.dropLast, .ref t, _, rfl, (k9).trans (Kp.of sm), (dl9).same sm, (hR9).kp (Kp.of sm), ok9, l9, .inr ⟨t, stands, rows, rfl, tab, inv, hl, hm⟩⟩
    · rcases out8 with ⟨h, _⟩ | ⟨t8, stands, rows, rfl, tab8, inv8, hl8, hm8⟩
      · exact absurd (decide_eq_true h) e
      intro md nmd
      have smd := same_upd (o := .dK []) nmd
      have nmp := dl8.ne nmd
      have nml := dl8.nl nmd
      refine ⟨_, rfl, _, rfl, _, rfl, _, rfl, p, l, t8, rows, rfl, dl8.same smd, tab8.same smd, ?_, by omega, ?_, fun H9 qr ord k9 dl9 nq tab9 po h0 => ?_⟩
      · have := (List.getElem?_eq_some_iff.mp inv8.z).1
        omega
      · intro row hrow
        obtain ⟨j, hj, rfl⟩ := List.mem_iff_getElem.mp hrow
        obtain ⟨rl, s, hs, ro⟩ := inv8.ro j _ (List.getElem?_eq_getElem hj)
        refine ⟨by omega, fun e' he' => ?_⟩
        obtain ⟨j', hj', rfl⟩ := List.mem_iff_getElem.mp he'
        obtain ⟨nm, tn, _, ee, ht⟩ := ro.at_ j' _ (List.getElem?_eq_getElem hj')
        refine ⟨tn, by rw [ee], ?_⟩
        have := (List.getElem?_eq_some_iff.mp ht).1
        omega
      · have hmd := k9.keep _ _ nd_dK upd_same
        refine ⟨hmd, [(Sum.inr "ins", .ref i), (Sum.inr "outs", .ref o), (Sum.inr "rows", .ref qr)], rfl, (by show 3 ≤ 15; decide), ?_⟩
        have lt9 : Lt H9 (upd H9 md (.dK (mergeK [] [(Sum.inr "ins", .ref i), (Sum.inr "outs", .ref o), (Sum.inr "rows", .ref qr)]))) := by
          refine ⟨fun b xs hb => ?_, fun b xs hb => ?_⟩
          · have : b ≠ md := fun z => by
              rw [z, hmd] at hb
              cases hb
            rw [upd_ne this]
            exact hb
          · have : b ≠ md := fun z => by
              rw [z, hmd] at hb
              cases hb
            rw [upd_ne this]
            exact hb
        have nm0 : H md = none := k8.free _ nmd
        refine q _ md qr rs8 stands rows ord ((k8.trans ((Kp.of smd).trans k9)).put nm0) (dl9.put nmp nml) nm0 ?_ (tab9.lt lt9) ok8 l8 inv8 hl8 hm8 po h0
        rw [upd_same]
        rfl
end
end Hl

set_option Elab.async false
set_option linter.all false
set_option maxRecDepth 100000
set_option maxHeartbeats 4000000
namespace Hl
open PySem PySem.Spec PyProof.Rows L2
/-! what is sent, outlet by outlet -/
def cF (outs : List Str) (r : Rl) (j : Nat) : Int := ((r.gs.filter fun p => decide (ixOf outs p.1 = j)).map (·.2)).sum
def gSum (outs : List Str) (l : List (Rl × Int × Int)) (j : Nat) : Int := (l.map fun t => cF outs t.1 j * (tm t.1 t.2.2 - tm t.1 t.2.1)).sum
theorem set_getD {acc : List Int} {k j : Nat} {v : Int} (hk : k < acc.length) : ((acc.set k v)[j]?).getD 0 = if k = j then v else (acc[j]?).getD 0 := by
  rw [List.getElem?_set]
  by_cases h : k = j
  · subst h
    rw [if_pos rfl, if_pos rfl, if_pos hk]
    rfl
  · rw [if_neg h, if_neg h]
theorem gFold_get {outs : List Str} {r : Rl} {x y : Int} {j : Nat} : ∀ (l : List (Str × Int)) (acc : List Int), acc.length = outs.length → (∀ p ∈ l, p.1 ∈ outs) →
    ((l.foldl (gStep outs r x y) acc)[j]?).getD 0 = (acc[j]?).getD 0 + ((l.filter fun p => decide (ixOf outs p.1 = j)).map (·.2)).sum * (tm r y - tm r x)
  | [], acc, _, _ => by
    show (acc[j]?).getD 0 = (acc[j]?).getD 0 + 0 * _
    rw [Int.zero_mul, Int.add_zero]
  | p :: l, acc, hl, hp => by
    have il := ixOf_lt (hp p List.mem_cons_self)
    have ih := gFold_get (r := r) (x := x) (y := y) (j := j) l (gStep outs r x y acc p) (by rw [gStep_len, hl]) fun q hq => hp q (List.mem_cons_of_mem _ hq)
    show ((l.foldl (gStep outs r x y) (gStep outs r x y acc p))[j]?).getD 0 = _
    rw [ih]
    have e : ((gStep outs r x y acc p)[j]?).getD 0 = if ixOf outs p.1 = j then (acc[ixOf outs p.1]?).getD 0 + p.2 * (tm r y - tm r x) else (acc[j]?).getD 0 := by
      unfold gStep addAt
      exact set_getD (by omega)
    rw [e, List.filter_cons]
    by_cases h : ixOf outs p.1 = j
    · rw [if_pos h, if_pos (decide_eq_true h), List.map_cons, List.sum_cons, h, Int.add_mul]
      omega
    · rw [if_neg h, if_neg (by simp [h])]
theorem gAll_getA {outs : List Str} {j : Nat} : ∀ (l : List (Rl × Int × Int)) (acc : List Int), acc.length = outs.length → (∀ t ∈ l, ∀ p ∈ t.1.gs, p.1 ∈ outs) →
    ((l.foldl (fun acc t => gRule outs t.1 t.2.1 t.2.2 acc) acc)[j]?).getD 0 = (acc[j]?).getD 0 + gSum outs l j
  | [], acc, _, _ => by
    show (acc[j]?).getD 0 = (acc[j]?).getD 0 + 0
    omega
  | t :: l, acc, hl, hp => by
    have ih := gAll_getA (j := j) l (gRule outs t.1 t.2.1 t.2.2 acc) (by rw [gRule_len, hl]) fun q hq => hp q (List.mem_cons_of_mem _ hq)
    show ((l.foldl _ (gRule outs t.1 t.2.1 t.2.2 acc))[j]?).getD 0 = _
    rw [ih]
    have e : ((gRule outs t.1 t.2.1 t.2.2 acc)[j]?).getD 0 = (acc[j]?).getD 0 + cF outs t.1 j * (tm t.1 t.2.2 - tm t.1 t.2.1) := gFold_get _ _ hl (hp t List.mem_cons_self)
    rw [e]
    unfold gSum
    rw [List.map_cons, List.sum_cons]
    omega
theorem gAll_get {outs : List Str} {l : List (Rl × Int × Int)} {j : Nat} (hj : j < outs.length) (hp : ∀ t ∈ l, ∀ p ∈ t.1.gs, p.1 ∈ outs) : (gAll outs l)[j]? = some (gSum outs l j) := by
  have h := gAll_getA (j := j) l (List.replicate outs.length 0) List.length_replicate hp
  have hl : j < (gAll outs l).length := by rw [gAll_len]; exact hj
  have e : (gAll outs l)[j]? = some ((gAll outs l)[j]) := List.getElem?_eq_getElem hl
  have h2 : ((gAll outs l)[j]?).getD 0 = (((List.replicate outs.length (0 : Int))[j]?).getD 0) + gSum outs l j := h
  rw [e] at h2 ⊢
  rw [List.getElem?_replicate, if_pos hj] at h2
  show some _ = some _
  congr 1
  have h3 : (gAll outs l)[j] = 0 + gSum outs l j := h2
  omega
theorem zip3_eq : ∀ (rs : List Rl) (s : List Int) (n : Str), rs.zip (s.zip (risen rs n s)) = (rs.zip s).map fun t => (t.1, t.2, t.2 + wt t.1 n)
  | [], s, n => rfl
  | r :: rs, [], n => rfl
  | r :: rs, x :: s, n => by
    have ih := zip3_eq rs s n
    show (r, x, x + wt r n) :: rs.zip (s.zip (risen rs n s)) = _
    rw [ih]
    rfl
theorem zip_there : ∀ (rs : List Rl) (s : List Int) (n : Str), rs.zip (there rs n s) = (rs.zip s).map fun t => (t.1, dn t.1 (t.2 + wt t.1 n))
  | [], s, n => rfl
  | r :: rs, [], n => by simp [there, risen]
  | r :: rs, x :: s, n => by
    have ih := zip_there rs s n
    show (r, dn r (x + wt r n)) :: rs.zip (there rs n s) = _
    rw [ih]
    rfl
theorem gn_sum (outs : List Str) (rs : List Rl) (n : Str) (s : List Int) (j : Nat) : gSum outs (rs.zip (s.zip (risen rs n s))) j = ((rs.zip s).map fun t => cF outs t.1 j * (tm t.1 (t.2 + wt t.1 n) - tm t.1 t.2)).sum := by
  rw [zip3_eq]
  unfold gSum
  rw [List.map_map]
  rfl
theorem sum_add (l : List (Rl × Int)) (f g : Rl × Int → Int) : (l.map f).sum + (l.map g).sum = (l.map fun t => f t + g t).sum := by
  induction l with
  | nil => rfl
  | cons t l ih =>
    rw [List.map_cons, List.map_cons, List.map_cons, List.sum_cons, List.sum_cons, List.sum_cons, ← ih]
    omega
theorem sum_congr (l : List (Rl × Int)) (f g : Rl × Int → Int) (h : ∀ t ∈ l, f t = g t) : (l.map f).sum = (l.map g).sum := by
  rw [List.map_congr_left h]
section
variable {outs : List Str} {rs : List Rl}
theorem zip_ok {s : List Int} (ok : RsOk rs outs) (hs : ∀ x ∈ s, 0 ≤ x ∧ x ≤ 10) : ∀ t ∈ rs.zip s, OkR t.1 ∧ 0 ≤ t.2 ∧ t.2 ≤ 10 := fun t ht => by
  obtain ⟨a, b⟩ := List.of_mem_zip ht
  exact ⟨ok.ok _ a, hs _ b⟩
/-- two letters, the one and then the other: what is sent -/
theorem two_sum {s : List Int} {a b : Str} {j : Nat} (ok : RsOk rs outs) (hs : ∀ x ∈ s, 0 ≤ x ∧ x ≤ 10) :
    gSum outs (rs.zip (s.zip (risen rs a s))) j + gSum outs (rs.zip ((there rs a s).zip (risen rs b (there rs a s)))) j = ((rs.zip s).map fun t => cF outs t.1 j * (tm t.1 (t.2 + wt t.1 a + wt t.1 b) - tm t.1 t.2)).sum := by
  rw [gn_sum, gn_sum, zip_there, List.map_map, sum_add]
  refine sum_congr _ _ _ fun t ht => ?_
  obtain ⟨okr, x0, _⟩ := zip_ok ok hs t ht
  have wa := wt_ge okr a
  have wb := wt_ge okr b
  show cF outs t.1 j * (tm t.1 (t.2 + wt t.1 a) - tm t.1 t.2) + cF outs t.1 j * (tm t.1 (dn t.1 (t.2 + wt t.1 a) + wt t.1 b) - tm t.1 (dn t.1 (t.2 + wt t.1 a))) = _
  rw [show tm t.1 (dn t.1 (t.2 + wt t.1 a) + wt t.1 b) - tm t.1 (dn t.1 (t.2 + wt t.1 a)) = tm t.1 (t.2 + wt t.1 a + wt t.1 b) - tm t.1 (t.2 + wt t.1 a) from times_add okr.oe (by omega) wb.1, ← Int.mul_add]
  congr 1
  omega
theorem there_comm {s : List Int} {a b : Str} (ok : RsOk rs outs) (hl : s.length = rs.length) (hs : ∀ x ∈ s, 0 ≤ x ∧ x ≤ 10) : there rs b (there rs a s) = there rs a (there rs b s) := by
  have two : ∀ a b, there rs b (there rs a s) = (rs.zip s).map fun t => dn t.1 (t.2 + wt t.1 a + wt t.1 b) := fun a b => by
    have e : there rs b (there rs a s) = (rs.zip (there rs a s)).map fun t => dn t.1 (t.2 + wt t.1 b) := by
      have z : ∀ (rs : List Rl) (u : List Int) (n : Str), there rs n u = (rs.zip u).map fun t => dn t.1 (t.2 + wt t.1 n) := by
        intro rs
        induction rs with
        | nil =>
          intro u n
          rfl
        | cons r rs ih =>
          intro u n
          cases u with
          | nil => simp [there, risen]
          | cons x u =>
            show dn r (x + wt r n) :: there rs n u = _
            rw [ih]
            rfl
      exact z _ _ _
    rw [e, zip_there, List.map_map]
    refine List.map_congr_left fun t ht => ?_
    obtain ⟨okr, x0, _⟩ := zip_ok ok hs t ht
    have wa := wt_ge okr a
    have wb := wt_ge okr b
    exact down_add okr.oe (by omega) wb.1
  rw [two a b, two b a]
  refine List.map_congr_left fun t _ => ?_
  rw [Int.add_right_comm]
theorem cF_ge {r : Rl} (h : OkR r) (j : Nat) : 0 ≤ cF outs r j ∧ cF outs r j ≤ 9 := by
  have key : ∀ l : List (Str × Int), (∀ p ∈ l, 0 ≤ p.2 ∧ p.2 ≤ 3) → 0 ≤ ((l.filter fun p => decide (ixOf outs p.1 = j)).map (·.2)).sum ∧ ((l.filter fun p => decide (ixOf outs p.1 = j)).map (·.2)).sum ≤ 3 * (l.length : Int) := by
    intro l
    induction l with
    | nil =>
      intro _
      exact ⟨Int.le_refl _, Int.le_refl _⟩
    | cons p l ih =>
      intro hp
      obtain ⟨a, b⟩ := ih fun q hq => hp q (List.mem_cons_of_mem _ hq)
      obtain ⟨c, d⟩ := hp p List.mem_cons_self
      rw [List.filter_cons]
      split
      · rw [List.map_cons, List.sum_cons, List.length_cons]
        omega
      · rw [List.length_cons]
        omega
  obtain ⟨a, b⟩ := key r.gs h.gv
  have := h.gl
  unfold cF
  omega
theorem gn_val {s : List Int} {n : Str} {j : Nat} (ok : RsOk rs outs) (lr : rs.length ≤ 4) (hs : ∀ x ∈ s, 0 ≤ x ∧ x ≤ 10) : 0 ≤ gSum outs (rs.zip (s.zip (risen rs n s))) j ∧ gSum outs (rs.zip (s.zip (risen rs n s))) j ≤ 999999 := by
  rw [gn_sum]
  have key : ∀ l : List (Rl × Int), (∀ t ∈ l, OkR t.1 ∧ 0 ≤ t.2 ∧ t.2 ≤ 10) → 0 ≤ (l.map fun t => cF outs t.1 j * (tm t.1 (t.2 + wt t.1 n) - tm t.1 t.2)).sum ∧ (l.map fun t => cF outs t.1 j * (tm t.1 (t.2 + wt t.1 n) - tm t.1 t.2)).sum ≤ 200 * (l.length : Int) := by
    intro l
    induction l with
    | nil =>
      intro _
      exact ⟨Int.le_refl _, Int.le_refl _⟩
    | cons t l ih =>
      intro hp
      obtain ⟨a, b⟩ := ih fun q hq => hp q (List.mem_cons_of_mem _ hq)
      obtain ⟨okr, x0, x10⟩ := hp t List.mem_cons_self
      have wa := wt_ge okr n
      obtain ⟨c0, c9⟩ := cF_ge (outs := outs) okr j
      obtain ⟨d0, d1⟩ := times_mono okr.oe (x := t.2) (w := wt t.1 n) x0 wa.1
      have m0 : 0 ≤ cF outs t.1 j * (tm t.1 (t.2 + wt t.1 n) - tm t.1 t.2) := Int.mul_nonneg c0 d0
      have m1 : cF outs t.1 j * (tm t.1 (t.2 + wt t.1 n) - tm t.1 t.2) ≤ 9 * 19 := Int.mul_le_mul c9 (Int.le_trans d1 (by omega)) d0 (by decide)
      rw [List.map_cons, List.sum_cons, List.length_cons]
      omega
  obtain ⟨a, b⟩ := key _ (zip_ok ok hs)
  have : (rs.zip s).length ≤ 4 := by
    rw [List.length_zip]
    omega
  omega
end
/-! lawful tables -/
def getE (T : Tab) (i a : Nat) : Option Ent := (T[i]?).bind fun row => row[a]?
inductive Rch (T : Tab) (s : Nat) : Nat → Prop
  | refl : Rch T s s
  | step {i a : Nat} {e : Ent} (h : Rch T s i) (he : getE T i a = some e) : Rch T s e.1.toNat
def addL (x y : List Int) : List Int := List.zipWith (· + ·) x y
structure Lawful (T : Tab) (k n : Nat) : Prop where
  n1 : 1 ≤ T.length
  n60 : T.length ≤ 60
  rl : ∀ row ∈ T, row.length = k
  nx : ∀ row ∈ T, ∀ e ∈ row, ∃ t : Nat, e.1 = t ∧ t < T.length
  sl : ∀ row ∈ T, ∀ e ∈ row, e.2.length = n
  sv : ∀ row ∈ T, ∀ e ∈ row, ∀ x ∈ e.2, 0 ≤ x ∧ x ≤ 999999
  re : ∀ i, i < T.length → Rch T 0 i
  he : ∀ (i a b : Nat) (ea eb eab eba : Ent), getE T i a = some ea → getE T i b = some eb → getE T ea.1.toNat b = some eab → getE T eb.1.toNat a = some eba → eab.1 = eba.1 ∧ addL ea.2 eab.2 = addL eb.2 eba.2
section
variable {rs : List Rl} {ins outs : List Str} {stands : List (List Int)} {rows : Tab} {ord : List Nat}
theorem gn_len (s : List Int) (n : Str) : (gn outs rs n s).length = outs.length := gAll_len _
theorem gn_get {s : List Int} {n : Str} {j : Nat} (ok : RsOk rs outs) (hj : j < outs.length) : (gn outs rs n s)[j]? = some (gSum outs (rs.zip (s.zip (risen rs n s))) j) :=
  gAll_get hj fun t ht p hp => ok.go t.1 (List.of_mem_zip ht).1 p hp
theorem renum_len : (renum ord rows).length = ord.length := by
  unfold renum
  rw [List.length_map]
theorem renum_get (inv : RInv rs ins outs stands rows) (hl : rows.length = stands.length) (po : ord.Perm (List.range rows.length)) {i a : Nat} {e : Ent} (h : getE (renum ord rows) i a = some e) :
    ∃ (o : Nat) (s : List Int) (nm : Str) (t : Nat), ord[i]? = some o ∧ stands[o]? = some s ∧ ins[a]? = some nm ∧ stands[t]? = some (there rs nm s) ∧ t ∈ ord ∧ e = ((pos' ord t : Int), gn outs rs nm s) := by
  unfold getE at h
  cases e1 : (renum ord rows)[i]? with
  | none =>
    rw [e1] at h
    cases h
  | some row' =>
    rw [e1] at h
    unfold renum at e1
    rw [List.getElem?_map] at e1
    cases e2 : ord[i]? with
    | none =>
      rw [e2] at e1
      cases e1
    | some o =>
      rw [e2] at e1
      have ol : o < rows.length := List.mem_range.mp (po.subset (List.mem_of_getElem? e2))
      have er : rows[o]? = some rows[o] := List.getElem?_eq_getElem ol
      have e3 : renRow ord ((rows[o]?).getD []) = row' := Option.some.inj e1
      rw [er] at e3
      obtain ⟨_, s, hs, ro⟩ := inv.ro o _ er
      have h' : row'[a]? = some e := h
      rw [← e3] at h'
      unfold renRow at h'
      rw [List.getElem?_map] at h'
      cases e4 : (((some rows[o]).getD [])[a]?) with
      | none =>
        rw [e4] at h'
        cases h'
      | some e0 =>
        rw [e4] at h'
        obtain ⟨nm, t, h1, h2, h3⟩ := ro.at_ a e0 e4
        have tl : t < rows.length := by
          have := (List.getElem?_eq_some_iff.mp h3).1
          omega
        refine ⟨o, s, nm, t, rfl, hs, h1, h3, po.symm.subset (List.mem_range.mpr tl), ?_⟩
        have h5 : ((pos' ord e0.1.toNat : Int), e0.2) = e := Option.some.inj h'
        rw [← h5, h2]
        rfl
theorem mem_getE {T : Tab} {row : List Ent} {e : Ent} (h1 : row ∈ T) (h2 : e ∈ row) : ∃ i a, getE T i a = some e := by
  obtain ⟨i, hi, rfl⟩ := List.mem_iff_getElem.mp h1
  obtain ⟨a, ha, rfl⟩ := List.mem_iff_getElem.mp h2
  refine ⟨i, a, ?_⟩
  unfold getE
  rw [List.getElem?_eq_getElem hi]
  exact List.getElem?_eq_getElem ha
theorem nd_get {α : Type} {l : List α} (h : l.Nodup) {i j : Nat} {x : α} (a : l[i]? = some x) (b : l[j]? = some x) : i = j := nd_ix h a b
theorem lawful {most : Nat} (ok : RsOk rs outs) (l4 : rs.length ≤ 4) (inv : RInv rs ins outs stands rows) (hl : rows.length = stands.length) (hm : stands.length ≤ most) (m60 : most ≤ 60) (po : ord.Perm (List.range rows.length)) (h0 : ord[0]? = some 0) :
    Lawful (renum ord rows) ins.length outs.length := by
  have lord : ord.length = rows.length := by rw [po.length_eq, List.length_range]
  have ndo : ord.Nodup := po.nodup_iff.mpr List.nodup_range
  have st0 := (List.getElem?_eq_some_iff.mp inv.z).1
  have ord_in : ∀ t, t < rows.length → t ∈ ord := fun t ht => po.symm.subset (List.mem_range.mpr ht)
  refine ⟨by rw [renum_len]; omega, by rw [renum_len]; omega, ?_, ?_, ?_, ?_, ?_, ?_⟩
  · intro row hrow
    unfold renum at hrow
    obtain ⟨o, ho, rfl⟩ := List.mem_map.mp hrow
    have ol : o < rows.length := List.mem_range.mp (po.subset ho)
    unfold renRow
    rw [List.length_map, List.getElem?_eq_getElem ol]
    exact (inv.ro o _ (List.getElem?_eq_getElem ol)).1
  · intro row hrow e he
    obtain ⟨i, a, h⟩ := mem_getE hrow he
    obtain ⟨o, s, nm, t, _, _, _, _, tin, rfl⟩ := renum_get inv hl po h
    exact ⟨pos' ord t, rfl, by rw [renum_len]; exact pos_lt tin⟩
  · intro row hrow e he
    obtain ⟨i, a, h⟩ := mem_getE hrow he
    obtain ⟨o, s, nm, t, _, _, _, _, tin, rfl⟩ := renum_get inv hl po h
    exact gn_len _ _
  · intro row hrow e he x hx
    obtain ⟨i, a, h⟩ := mem_getE hrow he
    obtain ⟨o, s, nm, t, _, hs, _, _, tin, rfl⟩ := renum_get inv hl po h
    obtain ⟨j, hj, rfl⟩ := List.mem_iff_getElem.mp hx
    have hj' : j < outs.length := by
      have := hj
      rw [gn_len] at this
      exact this
    have g := gn_get (s := s) (n := nm) ok hj'
    rw [List.getElem?_eq_getElem hj] at g
    rw [Option.some.inj g]
    exact gn_val ok l4 (inv.sv s (List.mem_of_getElem? hs))
  · -- each stand is come to
    have p0 : pos' ord 0 = 0 := nd_get ndo (pos_get (ord_in 0 (by omega))) h0
    have key : ∀ k, k < rows.length → Rch (renum ord rows) 0 (pos' ord k) := by
      intro k
      induction k using Nat.strongRecOn with
      | _ k ih =>
        intro hk
        by_cases hk0 : k = 0
        · rw [hk0, p0]
          exact .refl
        · obtain ⟨i, j, s, nm, ik, hs, hn, ht⟩ := inv.og k (by omega) (by omega)
          have il : i < rows.length := by omega
          obtain ⟨rl, s', hs', ro⟩ := inv.ro i _ (List.getElem?_eq_getElem il)
          have es : s' = s := Option.some.inj (hs'.symm.trans hs)
          subst es
          have jl : j < ins.length := (List.getElem?_eq_some_iff.mp hn).1
          have ej : (rows[i])[j]? = some (rows[i])[j] := List.getElem?_eq_getElem (by omega)
          obtain ⟨nm', t, h1, h2, h3⟩ := ro.at_ j _ ej
          have en : nm' = nm := Option.some.inj (h1.symm.trans hn)
          subst en
          have et : t = k := nd_get inv.nd h3 ht
          subst et
          have ge : getE (renum ord rows) (pos' ord i) j = some ((pos' ord t : Int), gn outs rs nm' s') := by
            unfold getE renum
            rw [List.getElem?_map, pos_get (ord_in i il)]
            show (renRow ord ((rows[i]?).getD []))[j]? = _
            rw [List.getElem?_eq_getElem il]
            unfold renRow
            rw [List.getElem?_map]
            show Option.map _ ((rows[i])[j]?) = _
            rw [ej]
            show some ((pos' ord ((rows[i])[j]).1.toNat : Int), ((rows[i])[j]).2) = _
            rw [h2]
            rfl
          exact Rch.step (ih i ik il) ge
    intro i hi
    rw [renum_len] at hi
    have hoi : ord[i]? = some ord[i] := List.getElem?_eq_getElem hi
    have ol : ord[i] < rows.length := List.mem_range.mp (po.subset (List.getElem_mem hi))
    have := key ord[i] ol
    rw [nd_get ndo (pos_get (List.getElem_mem hi)) hoi] at this
    exact this
  · -- order doesn't matter
    intro i a b ea eb eab eba h1 h2 h3 h4
    obtain ⟨o, s, na, ta, a1, a2, a3, a4, a5, rfl⟩ := renum_get inv hl po h1
    obtain ⟨o', s', nb, tb, b1, b2, b3, b4, b5, rfl⟩ := renum_get inv hl po h2
    have eo : o' = o := Option.some.inj (b1.symm.trans a1)
    subst eo
    have es : s' = s := Option.some.inj (b2.symm.trans a2)
    subst es
    have h3' : getE (renum ord rows) (pos' ord ta) b = some eab := h3
    have h4' : getE (renum ord rows) (pos' ord tb) a = some eba := h4
    obtain ⟨oa, sa, nb', tab, c1, c2, c3, c4, c5, rfl⟩ := renum_get inv hl po h3'
    obtain ⟨ob, sb, na', tba, d1, d2, d3, d4, d5, rfl⟩ := renum_get inv hl po h4'
    have e1 : oa = ta := Option.some.inj (c1.symm.trans (pos_get a5))
    have e2 : ob = tb := Option.some.inj (d1.symm.trans (pos_get b5))
    subst e1 e2
    have e3 : sa = there rs na s' := Option.some.inj (c2.symm.trans a4)
    have e4 : sb = there rs nb s' := Option.some.inj (d2.symm.trans b4)
    have e5 : nb' = nb := Option.some.inj (c3.symm.trans b3)
    have e6 : na' = na := Option.some.inj (d3.symm.trans a3)
    subst e3 e4 e5 e6
    have sin : s' ∈ stands := List.mem_of_getElem? a2
    have cm := there_comm (a := na') (b := nb') ok (inv.sl s' sin) (inv.sv s' sin)
    rw [cm] at c4
    have et : tab = tba := nd_get inv.nd c4 d4
    subst et
    refine ⟨rfl, ?_⟩
    show addL (gn outs rs na' s') (gn outs rs nb' (there rs na' s')) = addL (gn outs rs nb' s') (gn outs rs na' (there rs nb' s'))
    unfold addL
    refine List.ext_getElem? fun j => ?_
    rw [List.getElem?_zipWith, List.getElem?_zipWith]
    by_cases hj : j < outs.length
    · rw [gn_get ok hj, gn_get ok hj, gn_get ok hj, gn_get ok hj]
      show some (_ + _) = some (_ + _)
      rw [two_sum ok (inv.sv s' sin), two_sum ok (inv.sv s' sin)]
      congr 2
      refine List.map_congr_left fun t _ => ?_
      rw [Int.add_right_comm]
    · rw [List.getElem?_eq_none (by rw [gn_len]; omega), List.getElem?_eq_none (l := gn outs rs nb' s') (by rw [gn_len]; omega)]
end
end Hl

set_option Elab.async false
set_option linter.all false
set_option maxRecDepth 100000
set_option maxHeartbeats 4000000
namespace Hl
open PySem PySem.Spec PyProof.Rows L2
def toS : V → Str
  | .str s => s
  | _ => ""
theorem perm_strs {ys : List V} {ns : List Str} (h : ys.Perm (ns.map V.str)) : ∃ zs : List Str, ys = zs.map V.str ∧ zs.Perm ns := by
  refine ⟨ys.map toS, ?_, ?_⟩
  · rw [List.map_map]
    refine (List.map_id ys).symm.trans (List.map_congr_left fun v hv => ?_)
    obtain ⟨i, _, rfl⟩ := List.mem_map.mp (h.subset hv)
    rfl
  · have := h.map toS
    rw [List.map_map] at this
    refine this.trans (List.Perm.of_eq ((List.map_congr_left fun i _ => rfl).trans (List.map_id ns)))
theorem strs_plain (ns : List Str) : ∀ v ∈ ns.map V.str, ∀ r, v ≠ .ref r := fun v hv r e => by
  obtain ⟨s, _, rfl⟩ := List.mem_map.mp hv
  cases e
/-- a drawn machine -/
structure Dev (H : Hp) (m i o q : Addr) (ins outs : List Str) (T : Tab) : Prop where
  d : H m = some (devD i o q)
  hi : H i = some (.lst (ins.map V.str))
  ho : H o = some (.lst (outs.map V.str))
  ht : TabAt H q T
structure Nms (ins : List Str) : Prop where
  l3 : ins.length ≤ 3
  nd : ins.Nodup
  gd : ∀ n ∈ ins, Good n
theorem Dev.kp {H H' : Hp} {m i o q : Addr} {ins outs : List Str} {T : Tab} (k : Kp H H') (h : Dev H m i o q ins outs T) : Dev H' m i o q ins outs T :=
  ⟨k.keep _ _ nd_dK h.d, k.keep _ _ nd_strs h.hi, k.keep _ _ nd_strs h.ho, h.ht.kp k⟩
section
variable {P : Program} {w : World} {K : PySem.W.Frag} {mg : Str → Option Value} {base : Heap}
def spAny : Sp := fun vs H Q _ => ∃ (p l : Addr) (most : Nat), vs = [.ref p, .int most] ∧ Deal H p l ∧ 1 ≤ most ∧ most ≤ 60 ∧
  ∀ (H' : Hp) (m i o q : Addr) (ins outs : List Str) (T : Tab), Kp H H' → Deal H' p l → H m = none → Dev H' m i o q ins outs T → 1 ≤ ins.length → Nms ins → Nms outs → Lawful T ins.length outs.length → T.length ≤ most → Q (.ref m) H'
theorem scAn : FnScope ["_law_deal_here", "_law_most", "_law_ins", "_law_outs"] ["_law_deal_here", "_law_most"] (defScope sAny) := ⟨rfl, rfl, rfl, by decide +kernel, rfl, by decide +kernel, by decide +kernel⟩
theorem ok_any {f fK fO fN fS fD : Addr} {fd fdK fdO fdN fdS fdD : FuncData} {k : Nat} (F : Fun K "_law_any_device" "_law_any_device" sAny f fd)
    (GK : FnOk P w K mg base CX0 k fK fdK ["_law_deal_here", "_law_many"] spPick) (kK : PySem.W.keepIn K (.ref fK) = true) (bK : Binds K fdK ["_law_deal_here", "_law_many"] []) (gK : mg "_law_pick" = some (.ref fK))
    (GO : FnOk P w K mg base CX0 k fO fdO ["_law_deal_here", "_law_some"] spOf) (kO : PySem.W.keepIn K (.ref fO) = true) (bO : Binds K fdO ["_law_deal_here", "_law_some"] []) (gO : mg "_law_of" = some (.ref fO))
    (GN : FnOk P w K mg base CX0 k fN fdN ["_law_deal_here", "_law_many"] spNames) (kN : PySem.W.keepIn K (.ref fN) = true) (bN : Binds K fdN ["_law_deal_here", "_law_many"] []) (gN : mg "_law_names" = some (.ref fN))
    (GS : FnOk P w K mg base CX0 k fS fdS ["_law_deal_here", "_law_some"] spShuf) (kS : PySem.W.keepIn K (.ref fS) = true) (bS : Binds K fdS ["_law_deal_here", "_law_some"] []) (gS : mg "_law_shuffled" = some (.ref fS))
    (GD : FnOk P w K mg base CX0 k fD fdD ["_law_deal_here", "_law_ins", "_law_outs", "_law_most"] spDev) (kD : PySem.W.keepIn K (.ref fD) = true) (bD : Binds K fdD ["_law_deal_here", "_law_ins", "_law_outs", "_law_most"] []) (gD : mg "_law_device" = some (.ref fD)) :
    FnOk P w K mg base CX0 (k + 1) f fd ["_law_deal_here", "_law_most"] spAny := by
  refine F.ok scAn (fun vs H Q E h => ?_) (fun cdv A outer s H vs Q E hr h => ?_)
  · obtain ⟨p, l, m, rfl, _⟩ := h
    rfl
  · obtain ⟨p, l, most, rfl, dl, m1, m60, q⟩ := h
    refine ⟨_, pss_cons (ps_set (i := 2) scAn.nd rfl (.inl rfl) (pe_call GN hr (by rfl) gN kN bN .nil pass0 (pa_cons (pv 0) (pa_cons (pe_op op_add pe_int (pe_call GO hr (by rfl) gO kO bO .nil pass0 (pa_cons (pv 0) (pa_cons (pe_lst (pa_cons pe_int (pa_cons pe_int (pa_cons pe_int (pa_cons pe_int pa_nil))))) pa_nil)))) pa_nil))))
      (pss_cons (ps_set (i := 3) scAn.nd rfl (.inl rfl) (pe_call GS hr (by rfl) gS kS bS .nil pass0 (pa_cons (pv 0) (pa_cons (pe_call GN hr (by rfl) gN kN bN .nil pass0 (pa_cons (pv 0) (pa_cons (pe_call GK hr (by rfl) gK kK bK .nil pass0 (pa_cons (pv 0) (pa_cons pe_int pa_nil))) pa_nil))) pa_nil))))
      (pss_one (ps_ret (pe_call GD hr (by rfl) gD kD bD .nil pass0 (pa_cons (pv 0) (pa_cons (pe_call GS hr (by rfl) gS kS bS .nil pass0 (pa_cons (pv 0) (pa_cons (pv 2) pa_nil))) (pa_cons (pv 3) (pa_cons (pv 1) pa_nil)))))))), ?_⟩
    refine ⟨_, rfl, _, rfl, (by show 4 ≤ sizeLine; decide), fun c nc => ?_⟩
    have sc := same_upd (o := .lst (([0, 1, 1, 2] : List Int).map V.int)) nc
    refine ⟨p, l, c, ([0, 1, 1, 2] : List Int).map V.int, rfl, dl.same sc, upd_same, nd_ints, by decide, by decide, fun H1 x hx k1 dl1 => ?_⟩
    obtain ⟨r, hr2, rfl⟩ := List.mem_map.mp hx
    have rb : 0 ≤ r ∧ r ≤ 2 := by
      simp only [List.mem_cons, List.not_mem_nil, or_false] at hr2
      omega
    obtain ⟨rn, rfl⟩ := Int.eq_ofNat_of_zero_le rb.1
    have K1 := (Kp.of sc).trans k1
    refine ⟨_, _, rfl, rfl, p, l, 1 + rn, by rw [Int.natCast_add]; rfl, dl1, by omega, fun H2 qi ns k2 dl2 nqi hqi ln nd gd => ?_⟩
    have K2 := K1.trans k2
    refine ⟨_, rfl, _, rfl, _, rfl, p, l, 4, rfl, dl2, by decide, lg (b := 11) (by decide) (by decide) (by decide), fun H3 r3 k3 dl3 a0 a1 => ?_⟩
    obtain ⟨on, rfl⟩ := Int.eq_ofNat_of_zero_le a0
    refine ⟨p, l, on, rfl, dl3, by omega, fun H4 qo os k4 dl4 nqo hqo lo ndo gdo => ?_⟩
    have K4 := (K2.trans k3).trans k4
    refine ⟨p, l, qo, os.map V.str, rfl, dl4, hqo, strs_plain os, by rw [List.length_map]; omega, fun H5 o ys k5 dl5 no ho pm => ?_⟩
    obtain ⟨outs, rfl, pmo⟩ := perm_strs pm
    have K5 := K4.trans k5
    have hqi5 := ((k3.trans k4).trans k5).keep _ _ nd_strs hqi
    refine ⟨_, rfl, _, rfl, _, rfl, p, l, qi, ns.map V.str, rfl, dl5, hqi5, strs_plain ns, by rw [List.length_map]; omega, fun H6 i ys6 k6 dl6 ni hi pm6 => ?_⟩
    obtain ⟨ins, rfl, pmi⟩ := perm_strs pm6
    have K6 := K5.trans k6
    have li := pmi.length_eq
    have lo' := pmo.length_eq
    have gi : ∀ n ∈ ins, Good n := fun n hn => gd n (pmi.subset hn)
    have go : ∀ n ∈ outs, Good n := fun n hn => gdo n (pmo.subset hn)
    have ho6 := k6.keep _ _ nd_strs ho
    refine ⟨_, rfl, _, rfl, p, l, i, o, ins, outs, most, rfl, dl6, hi, ho6, by omega, by omega, by omega, gi, go, m1, m60, fun H7 m qt rs stands rows ord k7 dl7 nm hm tab ok l4 inv hl hmo po h0 => ?_⟩
    have law := lawful ok l4 inv hl hmo m60 po h0
    refine q H7 m i o qt ins outs _ (K6.trans k7) dl7 (K6.free _ nm) ⟨hm, k7.keep _ _ nd_strs hi, k7.keep _ _ nd_strs ho6, tab⟩ (by omega) ⟨by omega, pmi.nodup_iff.mpr nd, gi⟩ ⟨by omega, pmo.nodup_iff.mpr ndo, go⟩ law ?_
    rw [renum_len, po.length_eq, List.length_range]
    omega
end
end Hl

set_option Elab.async false
set_option linter.all false
set_option maxRecDepth 100000
set_option maxHeartbeats 4000000
namespace Hl
open PySem PySem.Spec PyProof.Rows L2
/-! going through a list or a tuple -/
def SqO (H : Hp) (a : Addr) (vs : List V) : Prop := H a = some (.lst vs) ∨ H a = some (.tup vs)
def iSeq (K : PySem.W.Frag) (tl : TE) : TI := fun σ H R => tl σ H fun x H1 => ∃ a, x = .ref a ∧ ((∃ xs, SqL K H1 a xs) ∧ R (Itl K a) H1 ∨ (∃ xs, SqT K H1 a xs) ∧ R (Itt K a) H1)
theorem pi_seq {X : Cx} {tg l : Expr} {tl : TE} (hl : PE X l tl) : PI X tg l (iSeq X.K tl) := by
  refine ⟨fun pins s σ H R I h => thn (hl.run pins s σ H _ I h) fun v s1 ⟨x, H1, I1, r1, a, ex, q1⟩ => ?_⟩
  subst ex
  cases r1
  have fresh : ∀ b ∈ [s1.heap.objs.size], _ := fun b hb => by
    have e : b = s1.heap.objs.size := by simpa using hb
    subst e
    exact I1.fpOk (Nat.le_refl _) (I1.hok.fresh (Nat.le_refl _))
  rcases q1 with ⟨⟨xs, hq⟩, q⟩ | ⟨⟨xs, hq⟩, q⟩
  · obtain ⟨its, _, p, _⟩ := I1.list hq
    exact wpAny_pyIter_list p.isList ⟨s1.heap.objs.size, [s1.heap.objs.size], _, _, H1, rfl, I1.kept (t' := s1.toks) fun b o e => Heap.get?_push_of_some _ e, turn_list a _, ⟨_, Heap.get?_push_size _ rfl, rfl, rfl⟩, fresh, q⟩
  · obtain ⟨its, _, p, _⟩ := I1.tuple hq
    exact wpAny_pyIter_tuple (show s1.heap.IsTuple a its.toArray from p) ⟨s1.heap.objs.size, [s1.heap.objs.size], _, _, H1, rfl, I1.kept (t' := s1.toks) fun b o e => Heap.get?_push_of_some _ e, turn_tuple a _, ⟨_, Heap.get?_push_size _ rfl, rfl, rfl⟩, fresh, q⟩
theorem for_seq {K : PySem.W.Frag} {a : Addr} {xs : List V} {g : TG} {tb : TS} {D : Ends} {σ : L2.St} {H : Hp} (hO : SqO H a xs) (Pv : Nat → L2.St → Hp → Prop) (h0 : Pv 0 σ H) (hl : ∀ i σ H', Pv i σ H' → ∀ o, H a = some o → H' a = some o)
    (hs : ∀ i x σ H, xs[i]? = some x → Pv i σ H → g x σ H fun σ2 H2 => tb { D with nx := Pv (i + 1), ct := Pv (i + 1), bk := D.nx } σ2 H2) (hd : ∀ σ H, Pv xs.length σ H → D.nx σ H) :
    ((∃ xs, SqL K H a xs) ∧ ∃ W : Nat → Nat → L2.St → Hp → Prop, (∃ m, W 0 m σ H) ∧ ∀ i m σ H, W i m σ H →
      ((Itl K a).stop i H ∧ D.nx σ H) ∨ ((Itl K a).go i H ∧ ∃ N : L2.St → Hp → Prop, (∀ σ' H', N σ' H' → ∃ m', m' < m ∧ W (i + 1) m' σ' H') ∧ ∀ x H', (Itl K a).yld i H x H' → g x σ H' fun σ2 H2 => tb { D with nx := N, ct := N, bk := D.nx } σ2 H2)) ∨
    ((∃ xs, SqT K H a xs) ∧ ∃ W : Nat → Nat → L2.St → Hp → Prop, (∃ m, W 0 m σ H) ∧ ∀ i m σ H, W i m σ H →
      ((Itt K a).stop i H ∧ D.nx σ H) ∨ ((Itt K a).go i H ∧ ∃ N : L2.St → Hp → Prop, (∀ σ' H', N σ' H' → ∃ m', m' < m ∧ W (i + 1) m' σ' H') ∧ ∀ x H', (Itt K a).yld i H x H' → g x σ H' fun σ2 H2 => tb { D with nx := N, ct := N, bk := D.nx } σ2 H2)) := by
  rcases hO with h | h
  · exact .inl ⟨⟨xs, SqL.of h⟩, for_list Pv h0 (fun i σ H' _ p => SqL.of (hl i σ H' p _ h)) hs hd⟩
  · exact .inr ⟨⟨xs, SqT.of h⟩, for_tup Pv h0 (fun i σ H' _ p => SqT.of (hl i σ H' p _ h)) hs hd⟩
theorem lc_seq {K : PySem.W.Frag} {a : Addr} {xs : List V} {g : TG} {tt : TT} {te : TE} {vs : List Nat} {σ : L2.St} {H : Hp} {Qd : Addr → Hp → Prop} (hO : SqO H a xs) (Pv : Addr → Nat → Hp → Prop) (h0 : ∀ D, H D = none → Pv D 0 (upd H D (.lst []))) (hl : ∀ D i H', H D = none → Pv D i H' → ∀ o, H a = some o → H' a = some o)
    (hs : ∀ D i x H', H D = none → xs[i]? = some x → Pv D i H' → g x (wipe σ vs) H' fun σ2 H2 => wipe σ2 vs = wipe σ vs ∧ tt σ2 H2 fun b H3 =>
      if b = true then te σ2 H3 fun y H4 => ∃ acc, H4 D = some (.lst acc) ∧ acc.length < sizeLine ∧ Pv D (i + 1) (upd H4 D (.lst (acc ++ [y]))) else Pv D (i + 1) H3) (hd : ∀ D H', H D = none → Pv D xs.length H' → Qd D H') :
    ((∃ xs, SqL K H a xs) ∧ ∀ D, H D = none → ∃ W : Nat → Nat → Hp → Prop, (∃ m, W 0 m (upd H D (.lst []))) ∧ ∀ i m H, W i m H →
      ((Itl K a).stop i H ∧ Qd D H) ∨ ((Itl K a).go i H ∧ ∃ Nx : Hp → Prop, (∀ H', Nx H' → ∃ m', m' < m ∧ W (i + 1) m' H') ∧ ∀ x H', (Itl K a).yld i H x H' → g x (wipe σ vs) H' fun σ2 H2 => wipe σ2 vs = wipe σ vs ∧ tt σ2 H2 fun b H3 =>
        if b = true then te σ2 H3 fun y H4 => ∃ acc, H4 D = some (.lst acc) ∧ acc.length < sizeLine ∧ Nx (upd H4 D (.lst (acc ++ [y]))) else Nx H3)) ∨
    ((∃ xs, SqT K H a xs) ∧ ∀ D, H D = none → ∃ W : Nat → Nat → Hp → Prop, (∃ m, W 0 m (upd H D (.lst []))) ∧ ∀ i m H, W i m H →
      ((Itt K a).stop i H ∧ Qd D H) ∨ ((Itt K a).go i H ∧ ∃ Nx : Hp → Prop, (∀ H', Nx H' → ∃ m', m' < m ∧ W (i + 1) m' H') ∧ ∀ x H', (Itt K a).yld i H x H' → g x (wipe σ vs) H' fun σ2 H2 => wipe σ2 vs = wipe σ vs ∧ tt σ2 H2 fun b H3 =>
        if b = true then te σ2 H3 fun y H4 => ∃ acc, H4 D = some (.lst acc) ∧ acc.length < sizeLine ∧ Nx (upd H4 D (.lst (acc ++ [y]))) else Nx H3)) := by
  rcases hO with h | h
  · exact .inl ⟨⟨xs, SqL.of h⟩, fun D nD => lc_list (Pv D) (h0 D nD) (fun i H' _ p => SqL.of (hl D i H' nD p _ h)) (fun i x H' => hs D i x H' nD) fun H' => hd D H' nD⟩
  · exact .inr ⟨⟨xs, SqT.of h⟩, fun D nD => lc_tup (Pv D) (h0 D nD) (fun i H' _ p => SqT.of (hl D i H' nD p _ h)) (fun i x H' => hs D i x H' nD) fun H' => hd D H' nD⟩
/-! tables of lists or tuples -/
def RRow (H : Hp) (v : V) (row : List Ent) : Prop := ∃ a vs, v = .ref a ∧ SqO H a vs ∧ Paired (EntAt H) vs row
def RTab (H : Hp) (a : Addr) (tab : Tab) : Prop := ∃ vs, SqO H a vs ∧ Paired (RRow H) vs tab
section
variable {H H' : Hp}
theorem SqO.same {a : Addr} {vs : List V} (k : Same H H') (h : SqO H a vs) : SqO H' a vs := h.elim (fun h => .inl (k _ _ h)) fun h => .inr (k _ _ h)
theorem SqO.or {K : PySem.W.Frag} {a : Addr} {vs : List V} (h : SqO H a vs) : SqL K H a vs ∨ SqT K H a vs := h.elim (fun h => .inl (SqL.of h)) fun h => .inr (SqT.of h)
theorem SqO.there {a : Addr} {vs : List V} (h : SqO H a vs) : ∃ o, H a = some o := h.elim (fun h => ⟨_, h⟩) fun h => ⟨_, h⟩
theorem RRow.same {v : V} {s : List Ent} (k : Same H H') (h : RRow H v s) : RRow H' v s := by
  obtain ⟨a, vs, e, h, h2⟩ := h
  exact ⟨a, vs, e, h.same k, paired_mono (fun _ _ => EntAt.same k) h2⟩
theorem RTab.same {a : Addr} {s : Tab} (k : Same H H') (h : RTab H a s) : RTab H' a s := by
  obtain ⟨vs, h, h2⟩ := h
  exact ⟨vs, h.same k, paired_mono (fun _ _ => RRow.same k) h2⟩
theorem RowAt.any {v : V} {s : List Ent} (h : RowAt H v s) : RRow H v s := by
  obtain ⟨a, vs, e, h, h2⟩ := h
  exact ⟨a, vs, e, .inl h, h2⟩
theorem TabAt.any {a : Addr} {s : Tab} (h : TabAt H a s) : RTab H a s := by
  obtain ⟨vs, h, h2⟩ := h
  exact ⟨vs, .inl h, paired_mono (fun _ _ => RowAt.any) h2⟩
end
/-! going through -/
theorem nd_le : ∀ (n : Nat) (l : List Nat), l.Nodup → (∀ x ∈ l, x < n) → l.length ≤ n
  | 0, l, _, h => by
    cases l with
    | nil => exact Nat.le_refl _
    | cons x l => exact absurd (h x List.mem_cons_self) (Nat.not_lt_zero _)
  | n + 1, l, nd, h => by
    by_cases hn : n ∈ l
    · have := nd_le n (l.erase n) (nd.erase n) fun x hx => by
        obtain ⟨ne, hx⟩ := (List.Nodup.mem_erase_iff nd).mp hx
        have := h x hx
        omega
      rw [List.length_erase_of_mem hn] at this
      omega
    · have := nd_le n l nd fun x hx => by
        have := h x hx
        have : x ≠ n := fun e => hn (e ▸ hx)
        omega
      omega
structure FInv (T : Tab) (s at' : Nat) (found : List Nat) : Prop where
  nd : found.Nodup
  lt : ∀ x ∈ found, x < T.length
  rc : ∀ x ∈ found, Rch T s x
  fs : s ∈ found
  cl : ∀ i o a e, i < at' → found[i]? = some o → getE T o a = some e → e.1.toNat ∈ found
  le : at' ≤ found.length
theorem FInv.start {T : Tab} {s : Nat} (h : s < T.length) : FInv T s 0 [s] :=
  ⟨by simp, fun x hx => by rw [List.mem_singleton.mp hx]; exact h, fun x hx => by rw [List.mem_singleton.mp hx]; exact .refl, List.mem_singleton.mpr rfl, fun i o a e hi => absurd hi (Nat.not_lt_zero _), Nat.zero_le _⟩
theorem FInv.add {T : Tab} {s at' : Nat} {found : List Nat} (f : FInv T s at' found) {t : Nat} (n : t ∉ found) (l : t < T.length) (r : Rch T s t) : FInv T s at' (found ++ [t]) := by
  refine ⟨?_, fun x hx => ?_, fun x hx => ?_, List.mem_append_left _ f.fs, fun i o a e hi ho he => ?_, by rw [List.length_append]; exact Nat.le_trans f.le (Nat.le_add_right _ _)⟩
  · rw [List.nodup_append]
    refine ⟨f.nd, by simp, fun a ha b hb e => ?_⟩
    rw [List.mem_singleton.mp hb] at e
    exact n (e ▸ ha)
  · rcases List.mem_append.mp hx with h | h
    · exact f.lt x h
    · rw [List.mem_singleton.mp h]
      exact l
  · rcases List.mem_append.mp hx with h | h
    · exact f.rc x h
    · rw [List.mem_singleton.mp h]
      exact r
  · have := f.le
    rw [List.getElem?_append_left (by omega)] at ho
    exact List.mem_append_left _ (f.cl i o a e hi ho he)
theorem FInv.next {T : Tab} {s at' o : Nat} {found : List Nat} (f : FInv T s at' found) (ho : found[at']? = some o) (h : ∀ a e, getE T o a = some e → e.1.toNat ∈ found) : FInv T s (at' + 1) found :=
  ⟨f.nd, f.lt, f.rc, f.fs, fun i o' a e hi ho' he => by
    by_cases hl : i < at'
    · exact f.cl i o' a e hl ho' he
    · have : i = at' := by omega
      subst this
      have : o' = o := Option.some.inj (ho'.symm.trans ho)
      subst this
      exact h a e he, (List.getElem?_eq_some_iff.mp ho).1⟩
theorem FInv.fin {T : Tab} {s at' : Nat} {found : List Nat} (f : FInv T s at' found) (h : found.length ≤ at') : ∀ j, j ∈ found ↔ Rch T s j := by
  refine fun j => ⟨f.rc j, fun r => ?_⟩
  induction r with
  | refl => exact f.fs
  | step r he ih =>
    obtain ⟨i, hi, e⟩ := List.mem_iff_getElem.mp ih
    exact f.cl i _ _ _ (by omega) (by rw [List.getElem?_eq_getElem hi, e]) he
theorem FInv.len {T : Tab} {s at' : Nat} {found : List Nat} (f : FInv T s at' found) : found.length ≤ T.length := nd_le _ _ f.nd f.lt
/-- what is seen -/
def seenL (n : Nat) (found : List Nat) : List Bool := (List.range n).map fun i => decide (i ∈ found)
theorem seenL_get {n : Nat} {found : List Nat} {j : Nat} (h : j < n) : (seenL n found)[j]? = some (decide (j ∈ found)) := by
  unfold seenL
  rw [List.getElem?_map, List.getElem?_range h]
  rfl
theorem seenL_len {n : Nat} {found : List Nat} : (seenL n found).length = n := by
  unfold seenL
  rw [List.length_map, List.length_range]
theorem seenL_set {n : Nat} {found : List Nat} {t : Nat} : (seenL n found).set t true = seenL n (found ++ [t]) := by
  refine List.ext_getElem? fun j => ?_
  rw [List.getElem?_set, seenL_len]
  by_cases hj : j < n
  · rw [seenL_get hj, seenL_get hj]
    by_cases e : t = j
    · subst e
      rw [if_pos rfl, if_pos hj]
      congr 1
      exact (decide_eq_true (List.mem_append_right _ (List.mem_singleton.mpr rfl))).symm
    · rw [if_neg e]
      congr 1
      have : (j ∈ found ++ [t]) ↔ j ∈ found := by
        rw [List.mem_append, List.mem_singleton]
        exact ⟨fun h => h.elim id fun h => absurd h.symm e, .inl⟩
      exact decide_eq_decide.mpr this.symm
  · rw [List.getElem?_eq_none (by rw [seenL_len]; omega), List.getElem?_eq_none (by rw [seenL_len]; omega)]
    by_cases e : t = j
    · rw [if_pos e, if_neg (by omega)]
    · rw [if_neg e]
theorem bl_get {bs : List Bool} {i : Nat} {v : V} (h : (bs.map V.bl)[i]? = some v) : ∃ b, bs[i]? = some b ∧ v = .bl b := by
  rw [List.getElem?_map] at h
  cases e : bs[i]? with
  | none =>
    rw [e] at h
    cases h
  | some s =>
    rw [e] at h
    exact ⟨s, rfl, (Option.some.inj h).symm⟩
/-- next stands are stands -/
structure Nxt (T : Tab) : Prop where
  n60 : T.length ≤ 60
  rl : ∀ row ∈ T, row.length ≤ 3
  nx : ∀ row ∈ T, ∀ e ∈ row, ∃ t : Nat, e.1 = t ∧ t < T.length
theorem Lawful.nxt {T : Tab} {k n : Nat} (l : Lawful T k n) (h : k ≤ 3) : Nxt T := ⟨l.n60, fun r hr => by rw [l.rl r hr]; exact h, l.nx⟩
end Hl

set_option Elab.async false
set_option linter.all false
set_option maxRecDepth 100000
set_option maxHeartbeats 4000000
namespace Hl
open PySem PySem.Spec PyProof.Rows L2
abbrev sLp : Stmt := topS 4
theorem w_rng {lo : Int} {n : Nat} {B : V → Hp → (Hp → Prop) → Prop} {H0 : Hp} {Qd : Hp → Prop} (Pv : Nat → Hp → Prop) (h0 : Pv 0 H0) (hs : ∀ j H, j < n → Pv j H → B (.int (lo + j)) H (Pv (j + 1))) (hd : ∀ H, Pv n H → Qd H) :
    ∃ W : Nat → Nat → Hp → Prop, (∃ m, W 0 m H0) ∧ ∀ j k H, W j k H → ((Itr lo n).stop j H ∧ Qd H) ∨ ((Itr lo n).go j H ∧ ∃ Nx : Hp → Prop, (∀ H', Nx H' → ∃ k', k' < k ∧ W (j + 1) k' H') ∧ ∀ x H', (Itr lo n).yld j H x H' → B x H' Nx) := by
  refine ⟨fun i m H => m = n - i ∧ i ≤ n ∧ Pv i H, ⟨n, by simp, Nat.zero_le _, h0⟩, ?_⟩
  rintro i m H ⟨rfl, hi, p⟩
  by_cases hlt : i < n
  · refine .inr ⟨hlt, Pv (i + 1), fun H' p' => ⟨n - (i + 1), by omega, rfl, hlt, p'⟩, ?_⟩
    rintro x H' ⟨rfl, rfl⟩
    exact hs i _ hlt p
  · have e : i = n := by omega
    subst e
    exact .inl ⟨Nat.le_refl _, hd H p⟩
/-- two lists, or two tuples, gone through together -/
theorem lc_zipA {K : PySem.W.Frag} {a b : Addr} {xs ys : List V} {g : TG} {tt : TT} {te : TE} {vs : List Nat} {σ : L2.St} {H : Hp} {Qd : Addr → Hp → Prop} (hl : xs.length = ys.length) (hO : (H a = some (.lst xs) ∧ H b = some (.lst ys)) ∨ (H a = some (.tup xs) ∧ H b = some (.tup ys))) (Pv : Addr → Nat → Hp → Prop) (h0 : ∀ D, H D = none → Pv D 0 (upd H D (.lst [])))
    (hq : ∀ D i H', H D = none → Pv D i H' → Same H H')
    (hs : ∀ (D : Addr) (i : Nat) (x y : V) (T : Addr) (H' : Hp), H D = none → xs[i]? = some x → ys[i]? = some y → Pv D i H' → H' T = none → g (.ref T) (wipe σ vs) (upd H' T (.tup [x, y])) fun σ2 H2 => wipe σ2 vs = wipe σ vs ∧ tt σ2 H2 fun b H3 =>
      if b = true then te σ2 H3 fun y H4 => ∃ acc, H4 D = some (.lst acc) ∧ acc.length < sizeLine ∧ Pv D (i + 1) (upd H4 D (.lst (acc ++ [y]))) else Pv D (i + 1) H3) (hd : ∀ D H', H D = none → Pv D xs.length H' → Qd D H') :
    ∃ xs ys, (SqL K H a xs ∧ SqL K H b ys ∧ ∀ D, H D = none → ∃ W : Nat → Nat → Hp → Prop, (∃ m, W 0 m (upd H D (.lst []))) ∧ ∀ i m H, W i m H →
      ((Itz K a b).stop i H ∧ Qd D H) ∨ ((Itz K a b).go i H ∧ ∃ Nx : Hp → Prop, (∀ H', Nx H' → ∃ m', m' < m ∧ W (i + 1) m' H') ∧ ∀ x H', (Itz K a b).yld i H x H' → g x (wipe σ vs) H' fun σ2 H2 => wipe σ2 vs = wipe σ vs ∧ tt σ2 H2 fun b H3 =>
        if b = true then te σ2 H3 fun y H4 => ∃ acc, H4 D = some (.lst acc) ∧ acc.length < sizeLine ∧ Nx (upd H4 D (.lst (acc ++ [y]))) else Nx H3)) ∨
     (SqT K H a xs ∧ SqT K H b ys ∧ ∀ D, H D = none → ∃ W : Nat → Nat → Hp → Prop, (∃ m, W 0 m (upd H D (.lst []))) ∧ ∀ i m H, W i m H →
      ((RZ.ItzT K a b).stop i H ∧ Qd D H) ∨ ((RZ.ItzT K a b).go i H ∧ ∃ Nx : Hp → Prop, (∀ H', Nx H' → ∃ m', m' < m ∧ W (i + 1) m' H') ∧ ∀ x H', (RZ.ItzT K a b).yld i H x H' → g x (wipe σ vs) H' fun σ2 H2 => wipe σ2 vs = wipe σ vs ∧ tt σ2 H2 fun b H3 =>
        if b = true then te σ2 H3 fun y H4 => ∃ acc, H4 D = some (.lst acc) ∧ acc.length < sizeLine ∧ Nx (upd H4 D (.lst (acc ++ [y]))) else Nx H3)) := by
  refine ⟨xs, ys, ?_⟩
  rcases hO with ⟨h1, h2⟩ | ⟨h1, h2⟩
  · refine .inl ⟨SqL.of h1, SqL.of h2, fun D nD => ?_⟩
    exact lc_zip hl (Pv D) (h0 D nD) (fun i H' p => ⟨SqL.of (hq D i H' nD p _ _ h1), SqL.of (hq D i H' nD p _ _ h2)⟩) (fun i x y T H' => hs D i x y T H' nD) fun H' => hd D H' nD
  · refine .inr ⟨SqT.of h1, SqT.of h2, fun D nD => ?_⟩
    refine ⟨fun i m H => m = xs.length - i ∧ i ≤ xs.length ∧ Pv D i H, ⟨xs.length, rfl, Nat.zero_le _, h0 D nD⟩, ?_⟩
    rintro i m H' ⟨rfl, hi, p⟩
    have sm := hq D i H' nD p
    have qx : SqT K H' a xs := SqT.of (sm _ _ h1)
    have qy : SqT K H' b ys := SqT.of (sm _ _ h2)
    by_cases hlt : i < xs.length
    · refine .inr ⟨⟨xs, ys, _, _, qx, qy, List.getElem?_eq_getElem hlt, List.getElem?_eq_getElem (show i < ys.length by omega)⟩, Pv D (i + 1), fun H' p' => ⟨xs.length - (i + 1), by omega, rfl, hlt, p'⟩, ?_⟩
      rintro v H'' ⟨T, x, y, rfl, hT, rfl, f1, f2⟩
      exact hs D i x y T H' nD (f1 _ qx) (f2 _ qy) p hT
    · have e : i = xs.length := by omega
      subst e
      exact .inl ⟨⟨xs, ys, qx, qy, .inl (Nat.le_refl _)⟩, hd D H' nD p⟩
/-- the pairs of letters -/
def lpRow (k i : Nat) : List (Nat × Nat) := (List.range (k - (i + 1))).map fun j => (i, i + 1 + j)
def lpL (k : Nat) : List (Nat × Nat) := (List.range k).flatMap (lpRow k)
theorem lpL_mem {k : Nat} {p : Nat × Nat} (h : p ∈ lpL k) : p.1 < p.2 ∧ p.2 < k := by
  unfold lpL at h
  obtain ⟨i, hi, h⟩ := List.mem_flatMap.mp h
  obtain ⟨j, hj, rfl⟩ := List.mem_map.mp h
  have := List.mem_range.mp hj
  exact ⟨by show i < i + 1 + j; omega, by show i + 1 + j < k; omega⟩
theorem lpRow_len (k i : Nat) : (lpRow k i).length ≤ k := by
  unfold lpRow
  rw [List.length_map, List.length_range]
  omega
theorem lp_len (k : Nat) : ∀ i, ((List.range i).flatMap (lpRow k)).length ≤ i * k
  | 0 => by simp
  | i + 1 => by
    have := lp_len k i
    have := lpRow_len k i
    rw [List.range_succ, List.flatMap_append, List.length_append, Nat.succ_mul]
    show _ + ([i].flatMap (lpRow k)).length ≤ _
    rw [show [i].flatMap (lpRow k) = lpRow k i by simp]
    omega
def NPair (H : Hp) (v : V) (p : Nat × Nat) : Prop := ∃ c, v = .ref c ∧ H c = some (.tup [.int (p.1 : Nat), .int (p.2 : Nat)])
theorem NPair.same {H H' : Hp} {v : V} {p : Nat × Nat} (k : Same H H') (h : NPair H v p) : NPair H' v p := by
  obtain ⟨c, e, h⟩ := h
  exact ⟨c, e, k _ _ h⟩
section
variable {P : Program} {w : World} {K : PySem.W.Frag} {mg : Str → Option Value} {base : Heap}
/-! letter_pairs -/
def spLp : Sp := fun vs H Q _ => ∃ (k : Nat), vs = [.int k] ∧ k ≤ 10 ∧ ∀ (H' : Hp) (q : Addr) (ws : List V), Same H H' → H q = none → H' q = some (.lst ws) → Paired (NPair H') ws (lpL k) → Q (.ref q) H'
theorem scLp : FnScope ["letters", "one", "other"] ["letters"] (defScope sLp) := ⟨rfl, rfl, rfl, by decide +kernel, rfl, by decide +kernel, by decide +kernel⟩
theorem ok_lp {f : Addr} {fd : FuncData} {k : Nat} (F : Fun K "letter_pairs" "letter_pairs" sLp f fd) (B : Bi mg) : FnOk P w K mg base CX0 (k + 1) f fd ["letters"] spLp := by
  refine F.ok scLp (fun vs H Q E h => ?_) (fun cdv A outer s H vs Q E hr h => ?_)
  · obtain ⟨kk, rfl, _⟩ := h
    rfl
  · obtain ⟨kk, rfl, k10, q⟩ := h
    refine ⟨_, pss_one (ps_ret (pe_lc2 (own := [("one", 1), ("other", 2)]) (vs1 := [2]) (g := gName 1) (g1 := gName 2) (tt := tYes) (tt1 := tYes) rfl scLp.nd (pi_range1 (by rfl) B.rng (pa_cons (pv 0) pa_nil))
      (blkOk_by (own := [("one", 1), ("other", 2)]) (N := ["letters", "one", "other"]) (sc := defScope sLp) (by decide +kernel)) (by decide)
      (fun _ _ _ _ _ => pg_name (i := 1) scLp.nd rfl (Or.inl rfl)) (fun _ _ _ _ _ => pts_nil)
      (fun _ _ _ _ _ => pi_range2 (by rfl) B.rng (pa_cons (pe_op op_add (pv 1) pe_int) (pa_cons (pv 0) pa_nil)))
      (fun _ _ _ _ _ => pg_name (i := 2) scLp.nd rfl (Or.inl rfl)) (fun _ _ _ _ _ => pts_nil)
      (fun _ _ _ _ _ => pe_tup (pa_cons (pv 1) (pa_cons (pv 2) pa_nil))))), ?_⟩
    refine ⟨_, rfl, (kk : Int), rfl, by omega, by omega, fun D nD => ?_⟩
    refine w_rng (n := kk) (fun i H' => ∃ ws, Same H H' ∧ H' D = some (.lst ws) ∧ Paired (NPair (st [D] H')) ws ((List.range i).flatMap (lpRow kk))) ⟨[], same_upd nD, upd_same, .nil⟩ ?_ ?_
    · rintro i H1 hi ⟨ws, sm1, hD1, pp1⟩
      refine ⟨rfl, ?_⟩
      have ll := lp_len kk i
      have ik : i * kk ≤ 100 := Nat.le_trans (Nat.mul_le_mul (show i ≤ 10 by omega) k10) (by decide)
      have e1 : ((kk : Int) - (0 + (i : Nat) + 1)).toNat = kk - (i + 1) := by omega
      refine ⟨_, rfl, _, _, rfl, rfl, _, rfl, 0 + (i : Nat) + 1, (kk : Int), rfl, ⟨by omega, by omega, by omega, by omega⟩, ?_⟩
      rw [e1]
      refine w_rng (n := kk - (i + 1)) (fun j H' => ∃ ws, Same H H' ∧ H' D = some (.lst ws) ∧ Paired (NPair (st [D] H')) ws ((List.range i).flatMap (lpRow kk) ++ (lpRow kk i).take j)) ⟨ws, sm1, hD1, by rw [List.take_zero, List.append_nil]; exact pp1⟩ ?_ ?_
      · rintro j H2 hj ⟨us, sm2, hD2, pp2⟩
        refine ⟨rfl, ?_⟩
        have lu := pp2.length
        rw [List.length_append, List.length_take] at lu
        refine ⟨_, rfl, _, rfl, (by show 2 ≤ sizeLine; decide), fun c nc => ?_⟩
        have sc := same_upd (o := .tup [.int (0 + (i : Nat)), .int (0 + (i : Nat) + 1 + (j : Nat))]) nc
        have ncD : c ≠ D := ne_of_fresh hD2 nc
        refine ⟨_, sc _ _ hD2, small1000 (by omega), us ++ [.ref c], (sm2.trans sc).put nD, upd_same, ?_⟩
        have ej : (lpRow kk i)[j]? = some (i, i + 1 + j) := by
          unfold lpRow
          rw [List.getElem?_map, List.getElem?_range hj]
          rfl
        rw [st_upd (by simp), List.take_add_one, ej, ← List.append_assoc]
        refine paired_snoc (paired_mono (fun _ _ => NPair.same (st_mono sc)) pp2) ⟨c, rfl, ?_⟩
        rw [st_get (by simp [ncD]), upd_same]
        show some (HO.tup [V.int (0 + (i : Nat)), V.int (0 + (i : Nat) + 1 + (j : Nat))]) = some (HO.tup [V.int ((i : Nat) : Int), V.int ((i + 1 + j : Nat) : Int)])
        rw [show (0 + (i : Int)) = (i : Int) by omega, show ((i : Int) + 1 + (j : Int)) = ((i + 1 + j : Nat) : Int) by omega]
      · rintro H2 ⟨us, sm2, hD2, pp2⟩
        refine ⟨us, sm2, hD2, ?_⟩
        rw [List.take_of_length_le (by unfold lpRow; rw [List.length_map, List.length_range]; omega)] at pp2
        rw [List.range_succ, List.flatMap_append, show [i].flatMap (lpRow kk) = lpRow kk i by simp]
        exact pp2
    · rintro H1 ⟨ws, sm1, hD1, pp1⟩
      exact q H1 D ws sm1 nD hD1 (paired_mono (fun _ _ => NPair.same st_same) pp1)
end
end Hl

set_option Elab.async false
set_option linter.all false
set_option maxRecDepth 100000
set_option maxHeartbeats 4000000
namespace Hl
open PySem PySem.Spec PyProof.Rows L2
/-! reading a table -/
section
variable {K : PySem.W.Frag} {H : Hp}
theorem rt_row {a : Addr} {T : Tab} {s : Nat} {row : List Ent} (h : RTab H a T) (hs : T[s]? = some row) : ∃ v, RRow H v row ∧ ∀ R : VK, R v H → rIx K (.ref a) (.int (s : Nat)) H R := by
  obtain ⟨vs, hv, pr⟩ := h
  obtain ⟨v, hvs, rv⟩ := paired_get2 pr s row hs
  refine ⟨v, rv, fun R hR => ?_⟩
  rcases hv with h | h
  · exact .inl ⟨a, vs, _, _, rfl, rfl, SqL.of h, atI_nat (j := s) hvs, hR⟩
  · exact .inr (.inl ⟨a, vs, _, _, rfl, rfl, SqT.of h, atI_nat (j := s) hvs, hR⟩)
theorem rr_ent {v : V} {row : List Ent} {i : Nat} {e : Ent} (h : RRow H v row) (hi : row[i]? = some e) : ∃ c t, H c = some (.tup [.int e.1, .ref t]) ∧ H t = some (.tup (e.2.map V.int)) ∧ ∀ R : VK, R (.ref c) H → rIx K v (.int (i : Nat)) H R := by
  obtain ⟨a, us, rfl, hu, pe⟩ := h
  obtain ⟨u, hus, c, t, rfl, hc, ht⟩ := paired_get2 pe i e hi
  refine ⟨c, t, hc, ht, fun R hR => ?_⟩
  rcases hu with h | h
  · exact .inl ⟨a, us, _, _, rfl, rfl, SqL.of h, atI_nat (j := i) hus, hR⟩
  · exact .inr (.inl ⟨a, us, _, _, rfl, rfl, SqT.of h, atI_nat (j := i) hus, hR⟩)
theorem getE_row {T : Tab} {s i : Nat} {e : Ent} (h : getE T s i = some e) : ∃ row, T[s]? = some row ∧ row[i]? = some e := by
  unfold getE at h
  cases hr : T[s]? with
  | none =>
    rw [hr] at h
    cases h
  | some row =>
    rw [hr] at h
    exact ⟨row, rfl, h⟩
theorem getE_mem {T : Tab} {s i : Nat} {e : Ent} (h : getE T s i = some e) : ∃ row, row ∈ T ∧ e ∈ row := by
  obtain ⟨row, h1, h2⟩ := getE_row h
  exact ⟨row, List.mem_of_getElem? h1, List.mem_of_getElem? h2⟩
end
/-- what two steps tell, as data -/
def twoD (e : Int) (s : List Int) : PyData := .tuple [.int e, stD s]
theorem twoD_shaped (e : Int) (s : List Int) : SeqAt.shaped (twoD e s) = true := by
  have h := stD_depth s
  have h2 : (twoD e s).depth ≤ 64 := by
    simp only [twoD, PyData.depth, PyData.depthAll]
    omega
  show ((twoD e s).canLay0 && decide ((twoD e s).depth ≤ 64)) = true
  rw [Bool.and_eq_true]
  refine ⟨?_, decide_eq_true h2⟩
  simp [twoD, PyData.canLay0, PyData.canLayAll0, stD_lay s]
theorem twoD_eqv (e : Int) (s : List Int) : PyData.eqv (twoD e s) (twoD e s) = true := by
  simp [twoD, PyData.eqv, PyData.eqvAll, stD_eqv]
def TwoAt (H : Hp) (q : Addr) (e : Int) (s : List Int) : Prop := ∃ l, H q = some (.tup [.int e, .ref l]) ∧ H l = some (.lst (s.map V.int))
theorem TwoAt.same {H H' : Hp} {q : Addr} {e : Int} {s : List Int} (k : Same H H') (h : TwoAt H q e s) : TwoAt H' q e s := by
  obtain ⟨l, h1, h2⟩ := h
  exact ⟨l, k _ _ h1, k _ _ h2⟩
theorem TwoAt.dp {K : PySem.W.Frag} {H : Hp} {q : Addr} {e : Int} {s : List Int} (h : TwoAt H q e s) : Dp K H (.ref q) (twoD e s) := by
  obtain ⟨l, h1, h2⟩ := h
  exact .tup (SqT.of h1) (.cons (.int e) (.cons (.lst (SqL.of h2) (ints_dp s)) .nil))
theorem addL_get {xs ys : List Int} {i : Nat} {x y : Int} (h1 : xs[i]? = some x) (h2 : ys[i]? = some y) : (addL xs ys)[i]? = some (x + y) := by
  unfold addL
  rw [List.getElem?_zipWith, h1, h2]
theorem lawful_get {T : Tab} {k n s i : Nat} (l : Lawful T k n) (hs : s < T.length) (hi : i < k) : ∃ e, ∃ t : Nat, getE T s i = some e ∧ e.1 = t ∧ t < T.length ∧ e.2.length = n := by
  have h1 : T[s]? = some T[s] := List.getElem?_eq_getElem hs
  have m1 : T[s] ∈ T := List.getElem_mem hs
  have rl := l.rl _ m1
  have h2 : T[s][i]? = some (T[s])[i] := List.getElem?_eq_getElem (by omega)
  have m2 : (T[s])[i] ∈ T[s] := List.getElem_mem (by omega)
  obtain ⟨t, et, tl⟩ := l.nx _ m1 _ m2
  refine ⟨(T[s])[i], t, ?_, et, tl, l.sl _ m1 _ m2⟩
  unfold getE
  rw [h1]
  exact h2
structure Shp (T : Tab) (k n : Nat) : Prop where
  n1 : 1 ≤ T.length
  n60 : T.length ≤ 60
  rl : ∀ row ∈ T, row.length = k
  nx : ∀ row ∈ T, ∀ e ∈ row, ∃ t : Nat, e.1 = t ∧ t < T.length
  sl : ∀ row ∈ T, ∀ e ∈ row, e.2.length = n
  sv : ∀ row ∈ T, ∀ e ∈ row, ∀ x ∈ e.2, 0 ≤ x ∧ x ≤ 999999
structure Has (P : Program) (w : World) (K : PySem.W.Frag) (mg : Str → Option Value) (base : Heap) (k : Nat) (x : Str) (ps : List Str) (sp : Sp) (f : Addr) (fd : FuncData) : Prop where
  G : FnOk P w K mg base CX0 k f fd ps sp
  kp : PySem.W.keepIn K (.ref f) = true
  b : Binds K fd ps []
  g : mg x = some (.ref f)
/-- what is come to from a stand -/
def SeenAt (T : Tab) (H : Hp) (v : V) (j : Nat) : Prop := ∃ c found, v = .ref c ∧ H c = some (.lst ((seenL T.length found).map V.bl)) ∧ ∀ x, x ∈ found ↔ Rch T j x
theorem SeenAt.same {T : Tab} {H H' : Hp} {v : V} {j : Nat} (k : Same H H') (h : SeenAt T H v j) : SeenAt T H' v j := by
  obtain ⟨c, f, e, h, x⟩ := h
  exact ⟨c, f, e, k _ _ h, x⟩
def ReachAt (H : Hp) (a : Addr) (T : Tab) : Prop := ∃ vs, H a = some (.lst vs) ∧ Paired (SeenAt T H) vs (List.range T.length)
theorem ReachAt.same {T : Tab} {H H' : Hp} {a : Addr} (k : Same H H') (h : ReachAt H a T) : ReachAt H' a T := by
  obtain ⟨vs, h, p⟩ := h
  exact ⟨vs, k _ _ h, paired_mono (fun _ _ => SeenAt.same k) p⟩
/-- a stand that comes again -/
def Bk (T : Tab) (s : Nat) : Prop := ∀ j, j < T.length → Rch T s j → Rch T j s
open Classical in
noncomputable def bkB (T : Tab) (s : Nat) : Bool := decide (Bk T s)
open Classical in
theorem bkB_of {T : Tab} {s : Nat} {b : Bool} (h : b = true ↔ Bk T s) : b = bkB T s := by
  unfold bkB
  by_cases hb : Bk T s
  · rw [h.mpr hb]
    exact (decide_eq_true hb).symm
  · rw [decide_eq_false hb]
    cases b with
    | false => rfl
    | true => exact absurd (h.mp rfl) hb
noncomputable def againL (T : Tab) (n : Nat) : List Nat := (List.range n).filter (bkB T)
theorem againL_succ {T : Tab} {n : Nat} : againL T (n + 1) = againL T n ++ (if bkB T n = true then [n] else []) := by
  unfold againL
  rw [List.range_succ, List.filter_append]
  congr 1
  by_cases h : bkB T n = true
  · rw [if_pos h, List.filter_cons_of_pos h]
    rfl
  · rw [if_neg h, List.filter_cons_of_neg h]
    rfl
theorem againL_len (T : Tab) (n : Nat) : (againL T n).length ≤ n := Nat.le_trans (List.length_filter_le _ _) (by rw [List.length_range]; exact Nat.le_refl _)
theorem range_get2 {α : Type} {R : α → Nat → Prop} {vs : List α} {n i : Nat} (h : Paired R vs (List.range n)) (hi : i < n) : ∃ v, vs[i]? = some v ∧ R v i := paired_get2 h i i (List.getElem?_range hi)
theorem valV_ne {k k' : Key} {v : V} {l : List (Key × V)} (h : ¬ k' = k) : valV ((k', v) :: l) k = valV l k := by
  unfold valV
  rw [List.find?_cons_of_neg (by simpa using h)]
theorem valV_eq {k : Key} {v : V} {l : List (Key × V)} : valV ((k, v) :: l) k = some v := by
  unfold valV
  rw [List.find?_cons_of_pos (by simp)]
  rfl
theorem k_io : ¬ (Sum.inr "ins" : Key) = (Sum.inr "outs" : Key) := by decide +kernel
theorem k_ir : ¬ (Sum.inr "ins" : Key) = (Sum.inr "rows" : Key) := by decide +kernel
theorem k_or : ¬ (Sum.inr "outs" : Key) = (Sum.inr "rows" : Key) := by decide +kernel
section
variable {H : Hp} {m i o q : Addr} {ins outs : List Str} {T : Tab}
theorem Dev.gi (d : Dev H m i o q ins outs T) : DGet H m (.str "ins") (some (.ref i)) := DGet.k (k := Sum.inr "ins") d.d
theorem Dev.go (d : Dev H m i o q ins outs T) : DGet H m (.str "outs") (some (.ref o)) := by
  have h := DGet.k (k := Sum.inr "outs") d.d
  have e : valV ([(Sum.inr "ins", V.ref i), (Sum.inr "outs", V.ref o), (Sum.inr "rows", V.ref q)] : List (Key × V)) (Sum.inr "outs" : Key) = some (.ref o) := by
    rw [valV_ne k_io, valV_eq]
  rw [e] at h
  exact h
theorem Dev.gr (d : Dev H m i o q ins outs T) : DGet H m (.str "rows") (some (.ref q)) := by
  have h := DGet.k (k := Sum.inr "rows") d.d
  have e : valV ([(Sum.inr "ins", V.ref i), (Sum.inr "outs", V.ref o), (Sum.inr "rows", V.ref q)] : List (Key × V)) (Sum.inr "rows" : Key) = some (.ref q) := by
    rw [valV_ne k_ir, valV_ne k_or, valV_eq]
  rw [e] at h
  exact h
theorem Dev.same {H' : Hp} (k : Same H H') (d : Dev H m i o q ins outs T) : Dev H' m i o q ins outs T := ⟨k _ _ d.d, k _ _ d.hi, k _ _ d.ho, d.ht.same k⟩
end
theorem inV_nat {t : Nat} {ns : List Nat} : inV (.int (t : Nat)) (natV ns) = decide (t ∈ ns) := by
  unfold inV natV
  rw [List.any_map]
  by_cases h : t ∈ ns
  · rw [decide_eq_true h, List.any_eq_true]
    exact ⟨t, h, by simp [eqV]⟩
  · rw [decide_eq_false h, List.any_eq_false]
    intro x hx
    have : x ≠ t := fun e => h (e ▸ hx)
    simp [eqV]
    omega
theorem natV_len (ns : List Nat) : (natV ns).length = ns.length := by
  unfold natV
  rw [List.length_map]
theorem Shp.nxt {T : Tab} {k n : Nat} (l : Shp T k n) (h : k ≤ 3) : Nxt T := ⟨l.n60, fun r hr => by rw [l.rl r hr]; exact h, l.nx⟩
theorem Lawful.shp {T : Tab} {k n : Nat} (l : Lawful T k n) : Shp T k n := ⟨l.n1, l.n60, l.rl, l.nx, l.sl, l.sv⟩
theorem shp_get {T : Tab} {k n s i : Nat} (l : Shp T k n) (hs : s < T.length) (hi : i < k) : ∃ e, ∃ t : Nat, getE T s i = some e ∧ e.1 = t ∧ t < T.length ∧ e.2.length = n := by
  have h1 : T[s]? = some T[s] := List.getElem?_eq_getElem hs
  have h2 := List.mem_of_getElem? h1
  have h3 : i < T[s].length := by rw [l.rl _ h2]; exact hi
  have h4 : T[s][i]? = some T[s][i] := List.getElem?_eq_getElem h3
  have h5 := List.mem_of_getElem? h4
  obtain ⟨t, et, tl⟩ := l.nx _ h2 _ h5
  refine ⟨T[s][i], t, ?_, et, tl, l.sl _ h2 _ h5⟩
  unfold getE
  rw [h1]
  exact h4
/-- two letters from a stand: where they lead, what they send -/
def two (T : Tab) (i a b : Nat) : Option (Int × List Int) := (getE T i a).bind fun e => (getE T e.1.toNat b).map fun e' => (e'.1, addL e.2 e'.2)
def Eqs (T : Tab) (i : Nat) (p : Nat × Nat) : Prop := two T i p.1 p.2 = two T i p.2 p.1
def NoHd (T : Tab) (k : Nat) : Prop := ∀ i, i < T.length → ∀ p ∈ lpL k, Eqs T i p
/-- the first stand, and the first pair of letters there, whose order is not all one -/
def FstHd (T : Tab) (k i j : Nat) : Prop := i < T.length ∧ (∀ i', i' < i → ∀ p ∈ lpL k, Eqs T i' p) ∧ (∀ j' p, j' < j → (lpL k)[j']? = some p → Eqs T i p) ∧ ∃ p, (lpL k)[j]? = some p ∧ ¬ Eqs T i p
theorem lpL_all {k a b : Nat} (h1 : a < b) (h2 : b < k) : (a, b) ∈ lpL k := by
  unfold lpL lpRow
  refine List.mem_flatMap.mpr ⟨a, List.mem_range.mpr (by omega), List.mem_map.mpr ⟨b - (a + 1), List.mem_range.mpr (by omega), ?_⟩⟩
  rw [show a + 1 + (b - (a + 1)) = b by omega]
theorem eqvAll_ints : ∀ {s s' : List Int}, PyData.eqvAll (s.map PyData.int) (s'.map PyData.int) = decide (s = s')
  | [], [] => by simp [PyData.eqvAll]
  | [], y :: s' => by simp [PyData.eqvAll]
  | x :: s, [] => by simp [PyData.eqvAll]
  | x :: s, y :: s' => by
    show (PyData.eqv (.int x) (.int y) && PyData.eqvAll (s.map PyData.int) (s'.map PyData.int)) = _
    rw [eqvAll_ints]
    simp [PyData.eqv]
    rfl
theorem twoD_iff {e e' : Int} {s s' : List Int} : PyData.eqv (twoD e s) (twoD e' s') = decide (e = e' ∧ s = s') := by
  unfold twoD stD
  show (PyData.eqv (.int e) (.int e') && (PyData.eqv (.list (s.map PyData.int)) (.list (s'.map PyData.int)) && true)) = _
  rw [show PyData.eqv (.list (s.map PyData.int)) (.list (s'.map PyData.int)) = PyData.eqvAll (s.map PyData.int) (s'.map PyData.int) from by simp [PyData.eqv], eqvAll_ints]
  simp [PyData.eqv]
  rfl
end Hl

set_option Elab.async false
set_option linter.all false
set_option maxRecDepth 100000
set_option maxHeartbeats 4000000
namespace Hl
open PySem PySem.Spec PyProof.Rows L2
/-! walking by one letter -/
def nxN (T : Tab) (a s : Nat) : Nat := ((getE T s a).map fun e => e.1.toNat).getD 0
def sdN (T : Tab) (a s j : Nat) : Int := ((getE T s a).map fun e => (e.2[j]?).getD 0).getD 0
def endN (T : Tab) (a : Nat) : Nat → Nat → Nat
  | 0, s => s
  | m + 1, s => nxN T a (endN T a m s)
def sumF : Nat → (Nat → Int) → Int
  | 0, _ => 0
  | m + 1, f => sumF m f + f m
def sntN (T : Tab) (a m s j : Nat) : Int := sumF m fun i => sdN T a (endN T a i s) j
def vec (n : Nat) (f : Nat → Int) : List Int := (List.range n).map f
theorem vec_len (n : Nat) (f : Nat → Int) : (vec n f).length = n := by
  unfold vec
  rw [List.length_map, List.length_range]
theorem vec_get {n i : Nat} {f : Nat → Int} (h : i < n) : (vec n f)[i]? = some (f i) := by
  unfold vec
  rw [List.getElem?_map, List.getElem?_range h]
  rfl
theorem vec_of {l : List Int} {n : Nat} {f : Nat → Int} (hl : l.length = n) (h : ∀ i, i < n → l[i]? = some (f i)) : l = vec n f := by
  refine List.ext_getElem? fun i => ?_
  by_cases hi : i < n
  · rw [h i hi, vec_get hi]
  · rw [List.getElem?_eq_none (by omega), List.getElem?_eq_none (by rw [vec_len]; omega)]
theorem vec_congr {n : Nat} {f g : Nat → Int} (h : ∀ i, i < n → f i = g i) : vec n f = vec n g := vec_of (vec_len _ _) fun i hi => by rw [vec_get hi, h i hi]
theorem addL_vec {n : Nat} {f g : Nat → Int} : addL (vec n f) (vec n g) = vec n fun j => f j + g j := by
  refine vec_of ?_ fun i hi => addL_get (vec_get hi) (vec_get hi)
  unfold addL
  rw [List.length_zipWith, vec_len, vec_len, Nat.min_self]
theorem sumF_congr {f g : Nat → Int} : ∀ {m : Nat}, (∀ i, i < m → f i = g i) → sumF m f = sumF m g
  | 0, _ => rfl
  | m + 1, h => by
    show sumF m f + f m = sumF m g + g m
    rw [sumF_congr fun i hi => h i (by omega), h m (by omega)]
theorem sumF_add (k : Nat) (f : Nat → Int) : ∀ m, sumF (k + m) f = sumF k f + sumF m fun i => f (k + i)
  | 0 => by
    show sumF k f = sumF k f + 0
    omega
  | m + 1 => by
    show sumF (k + m) f + f (k + m) = sumF k f + (sumF m (fun i => f (k + i)) + f (k + m))
    rw [sumF_add k f m]
    omega
theorem sumF_plus (f g : Nat → Int) : ∀ m, sumF m (fun i => f i + g i) = sumF m f + sumF m g
  | 0 => rfl
  | m + 1 => by
    show sumF m (fun i => f i + g i) + (f m + g m) = sumF m f + f m + (sumF m g + g m)
    rw [sumF_plus f g m]
    omega
theorem sumF_zero {f : Nat → Int} : ∀ {m : Nat}, (∀ i, i < m → f i = 0) → sumF m f = 0
  | 0, _ => rfl
  | m + 1, h => by
    show sumF m f + f m = 0
    rw [sumF_zero fun i hi => h i (by omega), h m (by omega)]
    rfl
theorem sumF_one {f : Nat → Int} {r : Nat} : ∀ {m : Nat}, r < m → sumF m (fun i => if i = r then f i else 0) = f r
  | 0, h => absurd h (Nat.not_lt_zero _)
  | m + 1, h => by
    show sumF m (fun i => if i = r then f i else 0) + (if m = r then f m else 0) = f r
    by_cases e : m = r
    · subst e
      rw [if_pos rfl, sumF_zero fun i hi => if_neg (by omega)]
      omega
    · rw [if_neg e, sumF_one (by omega)]
      omega
theorem endN_add (T : Tab) (a k s : Nat) : ∀ m, endN T a (k + m) s = endN T a m (endN T a k s)
  | 0 => rfl
  | m + 1 => by
    show nxN T a (endN T a (k + m) s) = nxN T a (endN T a m (endN T a k s))
    rw [endN_add T a k s m]
theorem sntN_add (T : Tab) (a k m s j : Nat) : sntN T a (k + m) s j = sntN T a k s j + sntN T a m (endN T a k s) j := by
  unfold sntN
  rw [sumF_add]
  congr 1
  exact sumF_congr fun i _ => by rw [endN_add]
section
variable {T : Tab} {k n : Nat}
theorem law_at (l : Lawful T k n) {s a : Nat} (hs : s < T.length) (ha : a < k) : ∃ e, getE T s a = some e ∧ e.1 = (nxN T a s : Nat) ∧ nxN T a s < T.length ∧ e.2 = vec n (sdN T a s) := by
  obtain ⟨e, t, g, et, tl, sl⟩ := lawful_get l hs ha
  have en : nxN T a s = t := by
    unfold nxN
    rw [g]
    show e.1.toNat = t
    omega
  refine ⟨e, g, by rw [en]; exact et, by rw [en]; exact tl, vec_of sl fun i hi => ?_⟩
  unfold sdN
  rw [g]
  show e.2[i]? = some ((e.2[i]?).getD 0)
  rw [List.getElem?_eq_getElem (by omega)]
  rfl
theorem endN_lt (l : Lawful T k n) {s a : Nat} (hs : s < T.length) (ha : a < k) : ∀ m, endN T a m s < T.length
  | 0 => hs
  | m + 1 => by
    obtain ⟨_, _, _, h, _⟩ := law_at l (endN_lt l hs ha m) ha
    exact h
theorem sdN_val (l : Lawful T k n) {s a j : Nat} (hs : s < T.length) (ha : a < k) (hj : j < n) : 0 ≤ sdN T a s j ∧ sdN T a s j ≤ 999999 := by
  obtain ⟨e, g, _, _, ev⟩ := law_at l hs ha
  obtain ⟨row, h1, h2⟩ := getE_mem g
  refine l.sv row h1 e h2 _ ?_
  rw [ev]
  exact List.mem_of_getElem? (vec_get hj)
/-! either way about -/
theorem nx_comm (l : Lawful T k n) {s a b : Nat} (hs : s < T.length) (ha : a < k) (hb : b < k) : nxN T b (nxN T a s) = nxN T a (nxN T b s) ∧ ∀ j, j < n → sdN T a s j + sdN T b (nxN T a s) j = sdN T b s j + sdN T a (nxN T b s) j := by
  obtain ⟨ea, g1, n1, t1, v1⟩ := law_at l hs ha
  obtain ⟨eb, g2, n2, t2, v2⟩ := law_at l hs hb
  obtain ⟨eab, g3, n3, t3, v3⟩ := law_at l t1 hb
  obtain ⟨eba, g4, n4, t4, v4⟩ := law_at l t2 ha
  obtain ⟨h1, h2⟩ := l.he s a b ea eb eab eba g1 g2 (by rw [n1]; exact g3) (by rw [n2]; exact g4)
  refine ⟨by omega, fun j hj => ?_⟩
  rw [v1, v2, v3, v4, addL_vec, addL_vec] at h2
  have := congrArg (fun l => l[j]?) h2
  simp only [vec_get hj] at this
  exact Option.some.inj this
theorem nx_end (l : Lawful T k n) {s a b : Nat} (hs : s < T.length) (ha : a < k) (hb : b < k) : ∀ m, endN T a m (nxN T b s) = nxN T b (endN T a m s) ∧ ∀ j, j < n → sntN T a m s j + sdN T b (endN T a m s) j = sdN T b s j + sntN T a m (nxN T b s) j
  | 0 => ⟨rfl, fun j _ => by
    show 0 + sdN T b s j = sdN T b s j + 0
    omega⟩
  | m + 1 => by
    obtain ⟨e, h⟩ := nx_end l hs ha hb m
    obtain ⟨e2, h2⟩ := nx_comm l (endN_lt l hs ha m) ha hb
    refine ⟨?_, fun j hj => ?_⟩
    · show nxN T a (endN T a m (nxN T b s)) = nxN T b (nxN T a (endN T a m s))
      rw [e, e2]
    · have h1 := h j hj
      have h3 := h2 j hj
      show sntN T a m s j + sdN T a (endN T a m s) j + sdN T b (nxN T a (endN T a m s)) j = sdN T b s j + (sntN T a m (nxN T b s) j + sdN T a (endN T a m (nxN T b s)) j)
      rw [e]
      omega
theorem end_end (l : Lawful T k n) {s a b : Nat} (hs : s < T.length) (ha : a < k) (hb : b < k) (m : Nat) : ∀ r, endN T a m (endN T b r s) = endN T b r (endN T a m s) ∧ ∀ j, j < n → sntN T a m s j + sntN T b r (endN T a m s) j = sntN T b r s j + sntN T a m (endN T b r s) j
  | 0 => ⟨rfl, fun j _ => by
    show sntN T a m s j + 0 = 0 + sntN T a m s j
    omega⟩
  | r + 1 => by
    obtain ⟨e, h⟩ := end_end l hs ha hb m r
    obtain ⟨e2, h2⟩ := nx_end l (endN_lt l hs hb r) ha hb m
    refine ⟨?_, fun j hj => ?_⟩
    · show endN T a m (nxN T b (endN T b r s)) = nxN T b (endN T b r (endN T a m s))
      rw [e2, e]
    · have h1 := h j hj
      have h3 := h2 j hj
      show sntN T a m s j + (sntN T b r (endN T a m s) j + sdN T b (endN T b r (endN T a m s)) j) = sntN T b r s j + sdN T b (endN T b r s) j + sntN T a m (nxN T b (endN T b r s)) j
      rw [← e]
      omega
/-! letters with their counts, one behind the other -/
def wE (T : Tab) : List (Nat × Nat) → Nat → Nat
  | [], s => s
  | p :: l, s => wE T l (endN T p.1 p.2 s)
def wS (T : Tab) : List (Nat × Nat) → Nat → Nat → Int
  | [], _, _ => 0
  | p :: l, s, j => sntN T p.1 p.2 s j + wS T l (endN T p.1 p.2 s) j
theorem wE_lt (l : Lawful T k n) : ∀ (q : List (Nat × Nat)) {s : Nat}, s < T.length → (∀ p ∈ q, p.1 < k) → wE T q s < T.length
  | [], s, hs, _ => hs
  | p :: q, s, hs, h => wE_lt l q (endN_lt l hs (h p List.mem_cons_self) p.2) fun r hr => h r (List.mem_cons_of_mem _ hr)
theorem wE_snoc (p : Nat × Nat) : ∀ (q : List (Nat × Nat)) (s : Nat), wE T (q ++ [p]) s = endN T p.1 p.2 (wE T q s)
  | [], s => rfl
  | r :: q, s => wE_snoc p q _
theorem wS_snoc (p : Nat × Nat) (j : Nat) : ∀ (q : List (Nat × Nat)) (s : Nat), wS T (q ++ [p]) s j = wS T q s j + sntN T p.1 p.2 (wE T q s) j
  | [], s => by
    show sntN T p.1 p.2 s j + 0 = 0 + sntN T p.1 p.2 s j
    omega
  | r :: q, s => by
    show sntN T r.1 r.2 s j + wS T (q ++ [p]) (endN T r.1 r.2 s) j = sntN T r.1 r.2 s j + wS T q (endN T r.1 r.2 s) j + sntN T p.1 p.2 (wE T q (endN T r.1 r.2 s)) j
    rw [wS_snoc p j q]
    omega
theorem w_perm (l : Lawful T k n) {q q' : List (Nat × Nat)} (h : q.Perm q') : (∀ p ∈ q, p.1 < k) → ∀ {s : Nat}, s < T.length → wE T q s = wE T q' s ∧ ∀ j, j < n → wS T q s j = wS T q' s j := by
  induction h with
  | nil => exact fun _ s _ => ⟨rfl, fun _ _ => rfl⟩
  | cons p h ih =>
    intro hk s hs
    obtain ⟨e, f⟩ := ih (fun r hr => hk r (List.mem_cons_of_mem _ hr)) (endN_lt l hs (hk p List.mem_cons_self) p.2)
    refine ⟨e, fun j hj => ?_⟩
    show sntN T p.1 p.2 s j + _ = sntN T p.1 p.2 s j + _
    rw [f j hj]
  | swap x y q =>
    intro hk s hs
    have hx : x.1 < k := hk x (by simp)
    have hy : y.1 < k := hk y (by simp)
    obtain ⟨e, f⟩ := end_end l hs hx hy x.2 y.2
    refine ⟨?_, fun j hj => ?_⟩
    · show wE T q (endN T x.1 x.2 (endN T y.1 y.2 s)) = wE T q (endN T y.1 y.2 (endN T x.1 x.2 s))
      rw [e]
    · have := f j hj
      show sntN T y.1 y.2 s j + (sntN T x.1 x.2 (endN T y.1 y.2 s) j + wS T q (endN T x.1 x.2 (endN T y.1 y.2 s)) j) = sntN T x.1 x.2 s j + (sntN T y.1 y.2 (endN T x.1 x.2 s) j + wS T q (endN T y.1 y.2 (endN T x.1 x.2 s)) j)
      rw [e]
      omega
  | trans h1 h2 ih1 ih2 =>
    intro hk s hs
    obtain ⟨e1, f1⟩ := ih1 hk hs
    obtain ⟨e2, f2⟩ := ih2 (fun p hp => hk p (h1.symm.subset hp)) hs
    exact ⟨e1.trans e2, fun j hj => (f1 j hj).trans (f2 j hj)⟩
end
/-! laps -/
structure Lap (T : Tab) (a s L ah : Nat) : Prop where
  lt : ah < L
  le : L ≤ T.length
  eq : endN T a L s = endN T a ah s
section
variable {T : Tab} {a s L ah : Nat}
theorem per_mul {t i0 : Nat} (h : ∀ i, i0 ≤ i → endN T a (i + t) s = endN T a i s) : ∀ (q i : Nat), i0 ≤ i → endN T a (i + t * q) s = endN T a i s
  | 0, i, _ => rfl
  | q + 1, i, hi => by
    rw [Nat.mul_succ, ← Nat.add_assoc, h _ (by omega)]
    exact per_mul h q i hi
theorem per_of {t i0 : Nat} (h : endN T a (i0 + t) s = endN T a i0 s) : ∀ i, i0 ≤ i → endN T a (i + t) s = endN T a i s := fun i hi => by
  obtain ⟨d, rfl⟩ : ∃ d, i = i0 + d := ⟨i - i0, by omega⟩
  rw [show i0 + d + t = i0 + t + d by omega, endN_add, h, ← endN_add]
theorem Lap.per (l : Lap T a s L ah) : ∀ i, ah ≤ i → endN T a (i + (L - ah)) s = endN T a i s := per_of (by
  have := l.lt
  rw [show ah + (L - ah) = L by omega]
  exact l.eq)
def red (L ah m : Nat) : Nat := if m < L then m else ah + (m - ah) % (L - ah)
theorem Lap.red (l : Lap T a s L ah) (m : Nat) : endN T a (Hl.red L ah m) s = endN T a m s := by
  unfold Hl.red
  by_cases h : m < L
  · rw [if_pos h]
  · rw [if_neg h]
    have := l.lt
    have e : m = ah + (m - ah) % (L - ah) + (L - ah) * ((m - ah) / (L - ah)) := by
      have := Nat.mod_add_div (m - ah) (L - ah)
      omega
    have := per_mul l.per ((m - ah) / (L - ah)) (ah + (m - ah) % (L - ah)) (by omega)
    rw [← e] at this
    exact this.symm
def oft (L ah many i : Nat) : Nat := if i < ah then 1 else (many - i - 1) / (L - ah) + 1
theorem oft_step {many i : Nat} (h : ah < L) (hm : L ≤ many) (hi : i < L) : oft L ah (many + 1) i = oft L ah many i + if i = ah + (many - ah) % (L - ah) then 1 else 0 := by
  unfold oft
  by_cases hia : i < ah
  · rw [if_pos hia, if_pos hia, if_neg (by omega)]
  · rw [if_neg hia, if_neg hia]
    obtain ⟨p, hp⟩ : ∃ p, p = L - ah := ⟨_, rfl⟩
    rw [← hp]
    have pp : 0 < p := by omega
    obtain ⟨t, rfl⟩ : ∃ t, i = ah + t := ⟨i - ah, by omega⟩
    have tp : t < p := by omega
    have e0 := Nat.mod_add_div (many - ah) p
    have r0 := Nat.mod_lt (many - ah) pp
    have q1 : 1 ≤ (many - ah) / p := (Nat.le_div_iff_mul_le pp).mpr (by omega)
    generalize (many - ah) % p = r at *
    obtain ⟨q, hq⟩ : ∃ q, (many - ah) / p = q + 1 := ⟨(many - ah) / p - 1, by omega⟩
    rw [hq, Nat.mul_succ] at e0
    have dv : ∀ x y z, z = p * x + y → y < p → z / p = x := fun x y z hz hy => by rw [hz, Nat.mul_add_div pp, Nat.div_eq_of_lt hy, Nat.add_zero]
    rcases Nat.lt_trichotomy t r with h1 | h1 | h1
    · rw [if_neg (by omega), dv (q + 1) (r - t) (many + 1 - (ah + t) - 1) (by rw [Nat.mul_succ]; omega) (by omega), dv (q + 1) (r - t - 1) (many - (ah + t) - 1) (by rw [Nat.mul_succ]; omega) (by omega)]
    · rw [if_pos (by omega), dv (q + 1) 0 (many + 1 - (ah + t) - 1) (by rw [Nat.mul_succ]; omega) pp, dv q (p - 1) (many - (ah + t) - 1) (by omega) (by omega)]
    · rw [if_neg (by omega), dv q (p + r - t) (many + 1 - (ah + t) - 1) (by omega) (by omega), dv q (p + r - t - 1) (many - (ah + t) - 1) (by omega) (by omega)]
theorem oft_low {many i : Nat} (h : ah < L) (hm : many < L) (hi : i < many) : oft L ah (many + 1) i = oft L ah many i := by
  unfold oft
  by_cases hia : i < ah
  · rw [if_pos hia, if_pos hia]
  · rw [if_neg hia, if_neg hia, Nat.div_eq_of_lt (by omega), Nat.div_eq_of_lt (by omega)]
theorem oft_new {many : Nat} : oft L ah (many + 1) many = 1 := by
  unfold oft
  by_cases hia : many < ah
  · rw [if_pos hia]
  · rw [if_neg hia, show many + 1 - many - 1 = 0 by omega, Nat.zero_div]
theorem lap_sum {f : Nat → Int} (h : ah < L) (hf : ∀ m, f (red L ah m) = f m) : ∀ many, sumF many f = sumF (min L many) fun i => (oft L ah many i : Nat) * f i
  | 0 => by rw [Nat.min_zero]; rfl
  | many + 1 => by
    show sumF many f + f many = _
    rw [lap_sum h hf many]
    by_cases hm : many < L
    · rw [Nat.min_eq_right (by omega), Nat.min_eq_right (by omega)]
      show _ = sumF many (fun i => (oft L ah (many + 1) i : Nat) * f i) + (oft L ah (many + 1) many : Nat) * f many
      rw [oft_new, sumF_congr (f := fun i => (oft L ah (many + 1) i : Nat) * f i) (g := fun i => (oft L ah many i : Nat) * f i) fun i hi => by rw [oft_low h hm hi]]
      simp
    · rw [Nat.min_eq_left (by omega), Nat.min_eq_left (by omega)]
      have hr : ah + (many - ah) % (L - ah) < L := by
        have := Nat.mod_lt (many - ah) (show 0 < L - ah by omega)
        omega
      have e : ∀ i, i < L → ((oft L ah (many + 1) i : Nat) : Int) * f i = (oft L ah many i : Nat) * f i + (if i = ah + (many - ah) % (L - ah) then f i else 0) := fun i hi => by
        rw [oft_step h (by omega) hi]
        by_cases hx : i = ah + (many - ah) % (L - ah)
        · rw [if_pos hx, if_pos hx, Int.natCast_add, Int.add_mul]
          simp
        · rw [if_neg hx, if_neg hx]
          simp
      rw [sumF_congr e, sumF_plus, sumF_one hr]
      congr 1
      rw [← hf many]
      unfold red
      rw [if_neg hm]
/-- going round -/
theorem sum_round {g : Nat → Int} {t : Nat} (hg : ∀ i, g (i + t) = g i) (r : Nat) : ∀ q, sumF (t * q + r) g = (q : Nat) * sumF t g + sumF r g
  | 0 => by
    rw [Nat.mul_zero, Nat.zero_add]
    simp
  | q + 1 => by
    rw [show t * (q + 1) + r = t + (t * q + r) by rw [Nat.mul_succ]; omega, sumF_add, sumF_congr (m := t * q + r) (f := fun i => g (t + i)) (g := g) fun i _ => by rw [Nat.add_comm, hg], sum_round hg r q, Int.natCast_add, Int.add_mul]
    simp
    omega
end
theorem pigeon {n : Nat} {f : Nat → Nat} (h : ∀ i, f i < n) : ∃ i j, i < j ∧ j ≤ n ∧ f i = f j := by
  by_cases hx : ∃ i j, i < j ∧ j ≤ n ∧ f i = f j
  · exact hx
  · have nd : ((List.range (n + 1)).map f).Nodup := by
      unfold List.Nodup
      rw [List.pairwise_map]
      refine List.Pairwise.imp_of_mem (R := fun a b => a < b) (fun {a b} ha hb hab e => hx ⟨a, b, hab, by have := List.mem_range.mp hb; omega, e⟩) List.pairwise_lt_range
    have := nd_le n _ nd fun x hxx => by
      obtain ⟨i, _, rfl⟩ := List.mem_map.mp hxx
      exact h i
    rw [List.length_map, List.length_range] at this
    omega
theorem ring_of {T : Tab} {k n a s : Nat} (l : Lawful T k n) (hs : s < T.length) (ha : a < k) : ∃ t, 0 < t ∧ t ≤ T.length ∧ endN T a (T.length + t) s = endN T a T.length s := by
  obtain ⟨i, j, hij, hj, e⟩ := pigeon (n := T.length) (f := fun m => endN T a m s) fun m => endN_lt l hs ha m
  refine ⟨j - i, by omega, by omega, ?_⟩
  exact per_of (i0 := i) (t := j - i) (by rw [show i + (j - i) = j by omega]; exact e.symm) _ (by omega)
end Hl

set_option Elab.async false
set_option linter.all false
set_option maxRecDepth 100000
set_option maxHeartbeats 4000000
namespace Hl
open PySem PySem.Spec PyProof.Rows L2
/-- what was met -/
def metK (f : Nat → Nat) (m : Nat) : List (Key × V) := (List.range m).map fun i => (Sum.inl ((f i : Nat) : Int), V.int ((i : Nat) : Int))
theorem metK_len (f : Nat → Nat) (m : Nat) : (metK f m).length = m := by
  unfold metK
  rw [List.length_map, List.length_range]
theorem metK_no {f : Nat → Nat} {m x : Nat} (h : valV (metK f m) (Sum.inl ((x : Nat) : Int)) = none) : ∀ i, i < m → f i ≠ x := by
  unfold valV at h
  rw [Option.map_eq_none_iff, List.find?_eq_none] at h
  intro i hi e
  have := h (Sum.inl ((f i : Nat) : Int), V.int ((i : Nat) : Int)) (List.mem_map.mpr ⟨i, List.mem_range.mpr hi, rfl⟩)
  rw [e] at this
  simp at this
theorem metK_some {f : Nat → Nat} {m x : Nat} {v : V} (h : valV (metK f m) (Sum.inl ((x : Nat) : Int)) = some v) : ∃ i, i < m ∧ f i = x ∧ v = .int ((i : Nat) : Int) := by
  unfold valV at h
  obtain ⟨kv, h1, rfl⟩ := Option.map_eq_some_iff.mp h
  have h2 := List.find?_some h1
  obtain ⟨i, hi, rfl⟩ := List.mem_map.mp (List.mem_of_find?_eq_some h1)
  refine ⟨i, List.mem_range.mp hi, ?_, rfl⟩
  have h3 : (Sum.inl ((f i : Nat) : Int) : Key) = Sum.inl ((x : Nat) : Int) := of_decide_eq_true h2
  have := Sum.inl.inj h3
  omega
theorem metK_put {f : Nat → Nat} {m : Nat} (h : ∀ i, i < m → f i ≠ f m) : putK (metK f m) (Sum.inl ((f m : Nat) : Int)) (.int ((m : Nat) : Int)) = metK f (m + 1) := by
  unfold putK
  rw [if_neg]
  · unfold metK
    rw [List.range_succ, List.map_append]
    rfl
  · rw [List.any_eq_true]
    rintro ⟨kv, h1, h2⟩
    obtain ⟨i, hi, rfl⟩ := List.mem_map.mp h1
    have h3 : (Sum.inl ((f i : Nat) : Int) : Key) = Sum.inl ((f m : Nat) : Int) := of_decide_eq_true h2
    have := Sum.inl.inj h3
    exact h i (List.mem_range.mp hi) (by omega)
theorem nd_snoc {f : Nat → Nat} {m : Nat} (h : ((List.range m).map f).Nodup) (n : ∀ i, i < m → f i ≠ f m) : ((List.range (m + 1)).map f).Nodup := by
  rw [List.range_succ, List.map_append, List.nodup_append]
  refine ⟨h, by simp, fun a ha b hb e => ?_⟩
  obtain ⟨i, hi, rfl⟩ := List.mem_map.mp ha
  have : b = f m := by simpa using hb
  exact n i (List.mem_range.mp hi) (e.trans this)
def pathN (T : Tab) (a s m : Nat) : List Nat := (List.range m).map fun i => endN T a i s
theorem pathN_len (T : Tab) (a s m : Nat) : (pathN T a s m).length = m := by
  unfold pathN
  rw [List.length_map, List.length_range]
theorem pathN_get {T : Tab} {a s m i : Nat} (h : i < m) : (pathN T a s m)[i]? = some (endN T a i s) := by
  unfold pathN
  rw [List.getElem?_map, List.getElem?_range h]
  rfl
end Hl

set_option Elab.async false
set_option linter.all false
set_option maxRecDepth 100000
set_option maxHeartbeats 4000000
namespace Hl
open PySem PySem.Spec PyProof.Rows L2
abbrev sGcd : Stmt := topS 6
abbrev sPart : Stmt := topS 7
abbrev sLess : Stmt := topS 8
abbrev sLow : Stmt := topS 20
abbrev sSum : Stmt := topS 21
def gI (a b : Int) : Int := ((Int.gcd a b : Nat) : Int)
def sgn (o u : Int) : Int := if u < 0 then -(gI o u) else gI o u
def lowF (o u : Int) : List V := [.int (o.fdiv (sgn o u)), .int (u.fdiv (sgn o u))]
theorem gI_step {x y : Int} (hx : 0 ≤ x) (hy : 0 < y) : gI y (x % y) = gI x y := by
  obtain ⟨n, rfl⟩ := Int.eq_ofNat_of_zero_le hx
  obtain ⟨m, rfl⟩ := Int.eq_ofNat_of_zero_le (Int.le_of_lt hy)
  unfold gI Int.gcd
  rw [← Int.natCast_emod, Int.natAbs_natCast, Int.natAbs_natCast, Int.natAbs_natCast, Nat.gcd_comm n m, Nat.gcd_rec m n, Nat.gcd_comm]
theorem gI_zero {x : Int} (hx : 0 ≤ x) : gI x 0 = x := by
  unfold gI
  rw [Int.gcd_zero]
  omega
theorem absV (i : Int) : (if i < 0 then -i else i) = (i.natAbs : Int) := by
  split <;> omega
theorem gI_abs (o u : Int) : gI (o.natAbs : Int) (u.natAbs : Int) = gI o u := by
  unfold gI Int.gcd
  rw [Int.natAbs_natCast, Int.natAbs_natCast]
theorem gI_pos {o u : Int} (h : u ≠ 0) : 0 < gI o u := by
  unfold gI
  have := Int.gcd_pos_of_ne_zero_right o h
  omega
theorem gI_le {o u : Int} (h : u ≠ 0) : (gI o u).natAbs ≤ u.natAbs := by
  unfold gI
  have := Nat.gcd_le_right o.natAbs (Int.natAbs_pos.mpr h)
  unfold Int.gcd
  omega
theorem sgn_ne {o u : Int} (h : u ≠ 0) : sgn o u ≠ 0 := by
  have := gI_pos (o := o) h
  unfold sgn
  split <;> omega
theorem sgn_abs (o u : Int) : (sgn o u).natAbs = (gI o u).natAbs := by
  unfold sgn
  split <;> omega
/-- // by any divisor but nought, below 2 ^ 9000 in size -/
def CDivZ (_ j : Int) : Prop := j ≠ 0 ∧ j.natAbs.log2 < 9000
theorem op_fdivZ {X : Cx} : OpR X (binaryOp .FloorDiv) (rI CDivZ fun i j => .int (i.fdiv j)) :=
  opI fun _ _ _ _ _ _ _ hc q => floordiv_int hc.1 q (.inl (PyProof.noPylong_of_log2 hc.2))
theorem divZ {i j : Int} (h : j ≠ 0) (hb : j.natAbs < 2 ^ 9000) : CDivZ i j :=
  ⟨h, PySem.Flt.log2_lt_of (by decide) hb⟩
section
variable {P : Program} {w : World} {K : PySem.W.Frag} {mg : Str → Option Value} {base : Heap}
/-! greatest_common -/
def spGcd : Sp := fun vs H Q _ => ∃ a b : Int, vs = [.int a, .int b] ∧ 0 ≤ a ∧ 0 ≤ b ∧ Q (.int (gI a b)) H
theorem scG : FnScope ["one", "other"] ["one", "other"] (defScope sGcd) := ⟨rfl, rfl, rfl, by decide +kernel, rfl, by decide +kernel, by decide +kernel⟩
theorem ok_gcd {f : Addr} {fd : FuncData} {k : Nat} (F : Fun K "greatest_common" "greatest_common" sGcd f fd) : FnOk P w K mg base CX0 (k + 1) f fd ["one", "other"] spGcd := by
  refine F.ok scG (fun vs H Q E h => ?_) (fun cdv A outer s H vs Q E hr h => ?_)
  · obtain ⟨a, b, rfl, _⟩ := h
    rfl
  · obtain ⟨a, b, rfl, ha, hb, q⟩ := h
    refine ⟨_, pss_cons (ps_while PassesOwn.never (pt_cmpR op_ne (pv 1) pe_int (nomark _))
        (pss_one (ps_par (i := 0) (j := 1) rfl scG.nd rfl rfl (by decide) rfl rfl (pa_cons (pv 1) (pa_cons (pe_op op_mod (pv 0) (pv 1)) pa_nil)) (by rfl))))
      (pss_one (ps_ret (pv 0))), ?_⟩
    refine ⟨fun m σ H' => ∃ x y : Int, σ = [some (.int x), some (.int y)] ∧ 0 ≤ x ∧ 0 ≤ y ∧ m = y.toNat ∧ gI x y = gI a b ∧ H' = H,
      ⟨_, a, b, rfl, ha, hb, rfl, rfl, rfl⟩, ?_⟩
    rintro m σ H' ⟨x, y, rfl, hx, hy, rfl, hg, rfl⟩
    refine ⟨_, rfl, rfl, _, rfl, ite2 (fun e => ?_) (fun e => ?_)⟩
    · have hy0 : y ≠ 0 := fun z => by
        subst z
        exact absurd e (by decide)
      have hy1 : 0 < y := by omega
      refine ⟨fun σ' H'' => ∃ x' y' : Int, σ' = [some (.int x'), some (.int y')] ∧ 0 ≤ x' ∧ 0 ≤ y' ∧ y' < y ∧ gI x' y' = gI a b ∧ H'' = H', fun σ' H'' ⟨x', y', e1, e2, e3, e4, e5, e6⟩ => ⟨y'.toNat, by omega, x', y', e1, e2, e3, rfl, e5, e6⟩, ?_⟩
      refine ⟨_, rfl, _, rfl, _, rfl, _, _, rfl, rfl, hy1, _, _, rfl, ?_⟩
      exact ⟨y, x % y, rfl, hy, Int.emod_nonneg _ hy0, Int.emod_lt_of_pos _ hy1, (gI_step hx hy1).trans hg, rfl⟩
    · have hy0 : y = 0 := by
        by_cases z : y = 0
        · exact z
        · exact absurd (show (!decide (V.int y = V.int 0)) = true by simp [z]) e
      subst hy0
      rw [gI_zero hx] at hg
      subst hg
      exact ⟨_, rfl, q⟩
/-! part -/
def spPart : Sp := fun vs H Q _ => ∃ o u : Int, vs = [.int o, .int u] ∧ u ≠ 0 ∧ u.natAbs < 2 ^ 9000 ∧ ∀ p, H p = none → Q (.ref p) (upd H p (.tup (lowF o u)))
theorem scP : FnScope ["over", "under", "shared"] ["over", "under"] (defScope sPart) := ⟨rfl, rfl, rfl, by decide +kernel, rfl, by decide +kernel, by decide +kernel⟩
theorem ok_part {f fG : Addr} {fd fdG : FuncData} {dvs : List V} {kws : List (Str × V)} {k : Nat} (F : FunD K "part" "part" (defArgs sPart) (defBody sPart) (defScope sPart) dvs kws f fd) (FG : Fun K "greatest_common" "greatest_common" sGcd fG fdG) (bG : Binds K fdG ["one", "other"] [])
    (gG : mg "greatest_common" = some (.ref fG)) (mA : mg "abs" = none) : FnOk P w K mg base CX0 (k + 2) f fd ["over", "under"] spPart := by
  have GG : FnOk P w K mg base CX0 (k + 1) fG fdG ["one", "other"] spGcd := ok_gcd FG
  refine F.ok scP (fun vs H Q E h => ?_) (fun cdv A outer s H vs Q E hr h => ?_)
  · obtain ⟨o, u, rfl, _⟩ := h
    rfl
  · obtain ⟨o, u, rfl, hu0, hub, q⟩ := h
    refine ⟨_, PSs.nox (pss_cons (ps_if (pt_cmpR op_eq (pv 1) pe_int (nomark _)) (pss_one ps_never) pss_nil)
      (pss_cons (ps_set (i := 2) scP.nd rfl (.inl rfl) (pe_call GG hr (by rfl) gG FG.kp bG .nil pass0 (pa_cons (pe_callB call_abs (by rfl) mA (by decide +kernel) (pa_cons (pv 0) pa_nil)) (pa_cons (pe_callB call_abs (by rfl) mA (by decide +kernel) (pa_cons (pv 1) pa_nil)) pa_nil))))
      (pss_cons (ps_if (pt_cmpR op_lt (pv 1) pe_int (nomark _)) (pss_one (ps_set (i := 2) scP.nd rfl (.inl rfl) (pe_un un_neg (pv 2)))) pss_nil)
      (pss_one (ps_ret (pe_tup (pa_cons (pe_op op_fdivZ (pv 0) (pv 2)) (pa_cons (pe_op op_fdivZ (pv 1) (pv 2)) pa_nil)))))))), ?_⟩
    have hs0 : sgn o u ≠ 0 := sgn_ne hu0
    have hsb : (sgn o u).natAbs < 2 ^ 9000 := by
      rw [sgn_abs]
      exact Nat.lt_of_le_of_lt (gI_le hu0) hub
    refine ⟨_, rfl, rfl, _, rfl, ite2 (fun e => ?_) (fun e => ?_)⟩
    · exact absurd (V.int.inj (of_decide_eq_true e)) hu0
    · refine ⟨_, rfl, o, rfl, _, rfl, u, rfl, (o.natAbs : Int), (u.natAbs : Int), ?_, by omega, by omega, ?_⟩
      · rw [absV, absV]
        rfl
      · rw [gI_abs]
        refine ⟨_, rfl, _, _, rfl, rfl, _, rfl, ite2 (fun e2 => ?_) (fun e2 => ?_)⟩
        · have hn : u < 0 := of_decide_eq_true e2
          have es : sgn o u = -(gI o u) := if_pos hn
          refine ⟨_, rfl, _, rfl, ?_⟩
          dsimp only
          rw [← es]
          exact ⟨_, rfl, _, rfl, _, _, rfl, rfl, divZ hs0 hsb, _, rfl, _, rfl, _, _, rfl, rfl, divZ hs0 hsb, (by show 2 ≤ sizeLine; decide), fun p hp => q p hp⟩
        · have hn : ¬ u < 0 := fun z => e2 (decide_eq_true z)
          have es : sgn o u = gI o u := if_neg hn
          rw [← es]
          exact ⟨_, rfl, _, rfl, _, _, rfl, rfl, divZ hs0 hsb, _, rfl, _, rfl, _, _, rfl, rfl, divZ hs0 hsb, (by show 2 ≤ sizeLine; decide), fun p hp => q p hp⟩
end
/-! more of parts -/
theorem sgn_pos {o u : Int} (h : 0 < u) : sgn o u = gI o u := if_neg (by omega)
theorem gI_dvd_left (o u : Int) : gI o u ∣ o := by
  unfold gI
  exact Int.gcd_dvd_left o u
theorem gI_dvd_right (o u : Int) : gI o u ∣ u := by
  unfold gI
  exact Int.gcd_dvd_right o u
/-- a pair of ints as parts have them -/
structure P2 (xs : List V) (x y : Int) : Prop where
  e : xs = [.int x, .int y]
  bx : x.natAbs < 2 ^ 100
  y0 : 0 < y
  by' : y.natAbs < 2 ^ 100
theorem lowP {o u : Int} (h : 0 < u) (ho : o.natAbs < 2 ^ 100) (hu : u.natAbs < 2 ^ 100) : ∃ x y, P2 (lowF o u) x y := by
  have g0 : 0 < gI o u := gI_pos (by omega)
  refine ⟨_, _, ⟨rfl, ?_, ?_, ?_⟩⟩
  · rw [sgn_pos h, Int.fdiv_eq_ediv_of_nonneg _ (by omega)]
    exact Nat.lt_of_le_of_lt (Int.natAbs_ediv_le_natAbs _ _) ho
  · rw [sgn_pos h, Int.fdiv_eq_ediv_of_nonneg _ (by omega)]
    exact Int.ediv_pos_of_pos_of_dvd h (by omega) (gI_dvd_right o u)
  · rw [sgn_pos h, Int.fdiv_eq_ediv_of_nonneg _ (by omega)]
    exact Nat.lt_of_le_of_lt (Int.natAbs_ediv_le_natAbs _ _) hu
theorem mul_lt {x w : Int} {a b : Nat} (hx : x.natAbs < 2 ^ a) (hw : w.natAbs < 2 ^ b) : (x * w).natAbs < 2 ^ (a + b) := wide_lt hx hw
theorem add_lt {x w : Int} {a : Nat} (hx : x.natAbs < 2 ^ a) (hw : w.natAbs < 2 ^ a) : (x + w).natAbs < 2 ^ (a + 1) := by
  have := Int.natAbs_add_le x w
  rw [Nat.pow_succ]
  omega
theorem lt9000 {x : Int} {a : Nat} (h : x.natAbs < 2 ^ a) (ha : a ≤ 9000) : x.natAbs < 2 ^ 9000 := Nat.lt_of_lt_of_le h (Nat.pow_le_pow_right (by decide) ha)
theorem cm {x w : Int} (hx : x.natAbs < 2 ^ 100) (hw : w.natAbs < 2 ^ 100) : CMulW x w := wide_mul hx hw (by decide) (by decide) (by decide)
section
variable {P : Program} {w : World} {K : PySem.W.Frag} {mg : Str → Option Value} {base : Heap}
/-! _law_low -/
def spLow : Sp := fun vs H Q _ => ∃ o u : Int, vs = [.int o, .int u] ∧ u ≠ 0 ∧ u.natAbs < 2 ^ 9000 ∧ ∀ p, H p = none → Q (.ref p) (upd H p (.tup (lowF o u)))
theorem scW : FnScope ["_law_over", "_law_under", "_law_one", "_law_other"] ["_law_over", "_law_under"] (defScope sLow) := ⟨rfl, rfl, rfl, by decide +kernel, rfl, by decide +kernel, by decide +kernel⟩
theorem ok_low {f : Addr} {fd : FuncData} {k : Nat} (F : Fun K "_law_low" "_law_low" sLow f fd) (B : Bi mg) : FnOk P w K mg base CX0 (k + 1) f fd ["_law_over", "_law_under"] spLow := by
  refine F.ok scW (fun vs H Q E h => ?_) (fun cdv A outer s H vs Q E hr h => ?_)
  · obtain ⟨o, u, rfl, _⟩ := h
    rfl
  · obtain ⟨o, u, rfl, hu0, hub, q⟩ := h
    refine ⟨_, pss_cons (ps_par (i := 2) (j := 3) rfl scW.nd rfl rfl (by decide) rfl rfl (pa_cons (pe_callB call_abs (by rfl) B.abs (by decide +kernel) (pa_cons (pv 0) pa_nil)) (pa_cons (pe_callB call_abs (by rfl) B.abs (by decide +kernel) (pa_cons (pv 1) pa_nil)) pa_nil)) (by rfl))
      (pss_cons (ps_while PassesOwn.never (pt_cmpR op_gt (pv 3) pe_int (nomark _))
        (pss_one (ps_par (i := 2) (j := 3) rfl scW.nd rfl rfl (by decide) rfl rfl (pa_cons (pv 3) (pa_cons (pe_op op_mod (pv 2) (pv 3)) pa_nil)) (by rfl))))
      (pss_cons (ps_set (i := 2) scW.nd rfl (.inl rfl) (pe_ifExp (pt_cmpR op_lt (pv 1) pe_int (nomark _)) (pe_op op_sub pe_int (pv 2)) (pv 2)))
      (pss_one (ps_ret (pe_tup (pa_cons (pe_op op_fdivZ (pv 0) (pv 2)) (pa_cons (pe_op op_fdivZ (pv 1) (pv 2)) pa_nil))))))), ?_⟩
    have hs0 : sgn o u ≠ 0 := sgn_ne hu0
    have hsb : (sgn o u).natAbs < 2 ^ 9000 := by
      rw [sgn_abs]
      exact Nat.lt_of_le_of_lt (gI_le hu0) hub
    refine ⟨_, rfl, o, rfl, _, rfl, u, rfl, _, _, rfl, ?_⟩
    rw [absV, absV]
    refine ⟨fun m σ H' => ∃ x y : Int, σ = [some (.int o), some (.int u), some (.int x), some (.int y)] ∧ 0 ≤ x ∧ 0 ≤ y ∧ m = y.toNat ∧ gI x y = gI o u ∧ H' = H,
      ⟨_, (o.natAbs : Int), (u.natAbs : Int), rfl, by omega, by omega, rfl, gI_abs o u, rfl⟩, ?_⟩
    rintro m σ H' ⟨x, y, rfl, hx, hy, rfl, hg, rfl⟩
    refine ⟨_, rfl, _, _, rfl, rfl, _, rfl, ite2 (fun e => ?_) (fun e => ?_)⟩
    · have hy1 : 0 < y := of_decide_eq_true e
      refine ⟨fun σ' H'' => ∃ x' y' : Int, σ' = [some (.int o), some (.int u), some (.int x'), some (.int y')] ∧ 0 ≤ x' ∧ 0 ≤ y' ∧ y' < y ∧ gI x' y' = gI o u ∧ H'' = H', fun σ' H'' ⟨x', y', e1, e2, e3, e4, e5, e6⟩ => ⟨y'.toNat, by omega, x', y', e1, e2, e3, rfl, e5, e6⟩, ?_⟩
      refine ⟨_, rfl, _, rfl, _, rfl, _, _, rfl, rfl, hy1, _, _, rfl, ?_⟩
      exact ⟨y, x % y, rfl, hy, Int.emod_nonneg _ (by omega), Int.emod_lt_of_pos _ hy1, (gI_step hx hy1).trans hg, rfl⟩
    · have hy0 : y = 0 := by
        have : ¬ 0 < y := fun z => e (decide_eq_true z)
        omega
      subst hy0
      rw [gI_zero hx] at hg
      subst hg
      refine ⟨_, rfl, _, _, rfl, rfl, _, rfl, ite2 (fun e2 => ?_) (fun e2 => ?_)⟩
      · have hn : u < 0 := of_decide_eq_true e2
        have es : sgn o u = 0 - gI o u := by
          unfold sgn
          rw [if_pos hn]
          omega
        refine ⟨_, rfl, _, _, rfl, rfl, ?_⟩
        dsimp only
        rw [← es]
        exact ⟨_, rfl, _, rfl, _, _, rfl, rfl, divZ hs0 hsb, _, rfl, _, rfl, _, _, rfl, rfl, divZ hs0 hsb, (by show 2 ≤ sizeLine; decide), fun p hp => q p hp⟩
      · have hn : ¬ u < 0 := fun z => e2 (decide_eq_true z)
        have es : sgn o u = gI o u := if_neg hn
        refine ⟨_, rfl, ?_⟩
        rw [← es]
        exact ⟨_, rfl, _, rfl, _, _, rfl, rfl, divZ hs0 hsb, _, rfl, _, rfl, _, _, rfl, rfl, divZ hs0 hsb, (by show 2 ≤ sizeLine; decide), fun p hp => q p hp⟩
/-! two parts to one -/
def spBin (K : PySem.W.Frag) (num : Int → Int → Int → Int → Int) : Sp := fun vs H Q _ => ∃ (a b : Addr) (xs ys : List V) (x y z u : Int), vs = [.ref a, .ref b] ∧ SqT K H a xs ∧ SqT K H b ys ∧ P2 xs x y ∧ P2 ys z u ∧
  ∀ (H' : Hp) (p : Addr), Same H H' → H p = none → H' p = some (.tup (lowF (num x y z u) (y * u))) → Q (.ref p) H'
def nPlus (x y z u : Int) : Int := x * u + z * y
def nLess (x y z u : Int) : Int := x * u - z * y
def nTimes (x _ z _ : Int) : Int := x * z
theorem yu {y u : Int} (h1 : 0 < y) (h2 : 0 < u) : y * u ≠ 0 := by
  have := Int.mul_pos h1 h2
  omega
theorem sc2 : FnScope ["one", "other"] ["one", "other"] (defScope sLess) := ⟨rfl, rfl, rfl, by decide +kernel, rfl, by decide +kernel, by decide +kernel⟩
theorem ok_less {f fP : Addr} {fd fdP : FuncData} {k : Nat} (F : Fun K "less" "less" sLess f fd) (GP : FnOk P w K mg base CX0 k fP fdP ["over", "under"] spPart) (kP : PySem.W.keepIn K (.ref fP) = true) (bP : Binds K fdP ["over", "under"] []) (gP : mg "part" = some (.ref fP)) :
    FnOk P w K mg base CX0 (k + 1) f fd ["one", "other"] (spBin K nLess) := by
  refine F.ok sc2 (fun vs H Q E h => ?_) (fun cdv A outer s H vs Q E hr h => ?_)
  · obtain ⟨a, b, xs, ys, x, y, z, u, rfl, _⟩ := h
    rfl
  · obtain ⟨a, b, xs, ys, x, y, z, u, rfl, ha, hb, ⟨rfl, bx, y0, by'⟩, ⟨rfl, bz, u0, bu⟩, q⟩ := h
    refine ⟨_, pss_one (ps_ret (pe_call GP hr (by rfl) gP kP bP .nil pass0 (pa_cons (pe_op op_sub (pe_op op_mulW (pe_ix ix_tup (pv 0) pe_int (fun _ _ => rfl)) (pe_ix ix_tup (pv 1) pe_int (fun _ _ => rfl))) (pe_op op_mulW (pe_ix ix_tup (pv 1) pe_int (fun _ _ => rfl)) (pe_ix ix_tup (pv 0) pe_int (fun _ _ => rfl))))
      (pa_cons (pe_op op_mulW (pe_ix ix_tup (pv 0) pe_int (fun _ _ => rfl)) (pe_ix ix_tup (pv 1) pe_int (fun _ _ => rfl))) pa_nil)))), ?_⟩
    refine ⟨_, rfl, a, _, 0, _, rfl, rfl, ha, atI_nat (j := 0) rfl, _, rfl, b, _, 1, _, rfl, rfl, hb, atI_nat (j := 1) rfl, _, _, rfl, rfl, cm bx bu, ?_⟩
    refine ⟨_, rfl, b, _, 0, _, rfl, rfl, hb, atI_nat (j := 0) rfl, _, rfl, a, _, 1, _, rfl, rfl, ha, atI_nat (j := 1) rfl, _, _, rfl, rfl, cm bz by', _, _, rfl, rfl, ?_⟩
    refine ⟨_, rfl, a, _, 1, _, rfl, rfl, ha, atI_nat (j := 1) rfl, _, rfl, b, _, 1, _, rfl, rfl, hb, atI_nat (j := 1) rfl, _, _, rfl, rfl, cm by' bu, ?_⟩
    exact ⟨_, _, rfl, yu y0 u0, lt9000 (mul_lt by' bu) (by decide), fun p hp => q _ p (same_upd hp) hp upd_same⟩
theorem sc5 : FnScope ["_law_one", "_law_other"] ["_law_one", "_law_other"] (defScope sSum) := ⟨rfl, rfl, rfl, by decide +kernel, rfl, by decide +kernel, by decide +kernel⟩
theorem ok_sum {f fP : Addr} {fd fdP : FuncData} {k : Nat} (F : Fun K "_law_sum" "_law_sum" sSum f fd) (GP : FnOk P w K mg base CX0 k fP fdP ["_law_over", "_law_under"] spLow) (kP : PySem.W.keepIn K (.ref fP) = true) (bP : Binds K fdP ["_law_over", "_law_under"] []) (gP : mg "_law_low" = some (.ref fP)) :
    FnOk P w K mg base CX0 (k + 1) f fd ["_law_one", "_law_other"] (spBin K nPlus) := by
  refine F.ok sc5 (fun vs H Q E h => ?_) (fun cdv A outer s H vs Q E hr h => ?_)
  · obtain ⟨a, b, xs, ys, x, y, z, u, rfl, _⟩ := h
    rfl
  · obtain ⟨a, b, xs, ys, x, y, z, u, rfl, ha, hb, ⟨rfl, bx, y0, by'⟩, ⟨rfl, bz, u0, bu⟩, q⟩ := h
    refine ⟨_, pss_one (ps_ret (pe_call GP hr (by rfl) gP kP bP .nil pass0 (pa_cons (pe_op op_add (pe_op op_mulW (pe_ix ix_tup (pv 0) pe_int (fun _ _ => rfl)) (pe_ix ix_tup (pv 1) pe_int (fun _ _ => rfl))) (pe_op op_mulW (pe_ix ix_tup (pv 1) pe_int (fun _ _ => rfl)) (pe_ix ix_tup (pv 0) pe_int (fun _ _ => rfl))))
      (pa_cons (pe_op op_mulW (pe_ix ix_tup (pv 0) pe_int (fun _ _ => rfl)) (pe_ix ix_tup (pv 1) pe_int (fun _ _ => rfl))) pa_nil)))), ?_⟩
    refine ⟨_, rfl, a, _, 0, _, rfl, rfl, ha, atI_nat (j := 0) rfl, _, rfl, b, _, 1, _, rfl, rfl, hb, atI_nat (j := 1) rfl, _, _, rfl, rfl, cm bx bu, ?_⟩
    refine ⟨_, rfl, b, _, 0, _, rfl, rfl, hb, atI_nat (j := 0) rfl, _, rfl, a, _, 1, _, rfl, rfl, ha, atI_nat (j := 1) rfl, _, _, rfl, rfl, cm bz by', _, _, rfl, rfl, ?_⟩
    refine ⟨_, rfl, a, _, 1, _, rfl, rfl, ha, atI_nat (j := 1) rfl, _, rfl, b, _, 1, _, rfl, rfl, hb, atI_nat (j := 1) rfl, _, _, rfl, rfl, cm by' bu, ?_⟩
    exact ⟨_, _, rfl, yu y0 u0, lt9000 (mul_lt by' bu) (by decide), fun p hp => q _ p (same_upd hp) hp upd_same⟩
end
theorem gI_neg (o u : Int) : gI (-o) u = gI o u := by
  unfold gI
  rw [Int.neg_gcd]
theorem low_neg {o u : Int} (h : 0 < u) : (-o).fdiv (sgn (-o) u) = -(o.fdiv (sgn o u)) := by
  have g0 : 0 < gI o u := gI_pos (by omega)
  rw [sgn_pos h, sgn_pos h, gI_neg, Int.fdiv_eq_ediv_of_nonneg _ (by omega), Int.fdiv_eq_ediv_of_nonneg _ (by omega)]
  exact Int.neg_ediv_of_dvd (gI_dvd_left o u)
end Hl

set_option Elab.async false
set_option linter.all false
set_option maxRecDepth 100000
set_option maxHeartbeats 4000000
namespace Hl
open PySem PySem.Spec PyProof.Rows L2
/-! words -/
theorem wE_app {T : Tab} (r : List (Nat × Nat)) : ∀ (q : List (Nat × Nat)) (s : Nat), wE T (q ++ r) s = wE T r (wE T q s)
  | [], _ => rfl
  | p :: q, s => wE_app r q _
theorem wS_app {T : Tab} (r : List (Nat × Nat)) (j : Nat) : ∀ (q : List (Nat × Nat)) (s : Nat), wS T (q ++ r) s j = wS T q s j + wS T r (wE T q s) j
  | [], s => by
    show wS T r s j = 0 + wS T r s j
    omega
  | p :: q, s => by
    show sntN T p.1 p.2 s j + wS T (q ++ r) (endN T p.1 p.2 s) j = sntN T p.1 p.2 s j + wS T q (endN T p.1 p.2 s) j + wS T r (wE T q (endN T p.1 p.2 s)) j
    rw [wS_app r j q]
    omega
/-- letters that there are -/
def Gd (k : Nat) (q : List (Nat × Nat)) : Prop := ∀ p ∈ q, p.1 < k
theorem Gd.app {k : Nat} {q r : List (Nat × Nat)} (a : Gd k q) (b : Gd k r) : Gd k (q ++ r) := fun p hp => (List.mem_append.mp hp).elim (a p) (b p)
theorem Gd.one {k a m : Nat} (h : a < k) : Gd k [(a, m)] := fun p hp => by
  rw [List.mem_singleton.mp hp]
  exact h
section
variable {T : Tab} {k n : Nat}
theorem w_comm (l : Lawful T k n) {q r : List (Nat × Nat)} (a : Gd k q) (b : Gd k r) {s : Nat} (hs : s < T.length) : wE T r (wE T q s) = wE T q (wE T r s) ∧ ∀ j, j < n → wS T q s j + wS T r (wE T q s) j = wS T r s j + wS T q (wE T r s) j := by
  obtain ⟨e, f⟩ := w_perm l (q := q ++ r) (q' := r ++ q) List.perm_append_comm (a.app b) hs
  rw [wE_app, wE_app] at e
  refine ⟨e, fun j hj => ?_⟩
  have := f j hj
  rw [wS_app, wS_app] at this
  exact this
theorem rch_word (l : Lawful T k n) {s t : Nat} (hs : s < T.length) (h : Rch T s t) : ∃ q, Gd k q ∧ wE T q s = t := by
  induction h with
  | refl => exact ⟨[], (fun p hp => by cases hp), rfl⟩
  | @step i a e _ he ih =>
    obtain ⟨q, gq, eq⟩ := ih
    have il : i < T.length := by
      rw [← eq]
      exact wE_lt l q hs gq
    obtain ⟨row, hr, ha⟩ := getE_row he
    have ak : a < k := by
      have := (List.getElem?_eq_some_iff.mp ha).1
      rw [l.rl row (List.mem_of_getElem? hr)] at this
      exact this
    refine ⟨q ++ [(a, 1)], gq.app (Gd.one ak), ?_⟩
    rw [wE_app, eq]
    show nxN T a i = _
    unfold nxN
    rw [he]
    rfl
theorem rch_nx (l : Lawful T k n) {s a : Nat} (hs : s < T.length) (ha : a < k) : Rch T s (nxN T a s) := by
  obtain ⟨e, ge, e1, _, _⟩ := law_at l hs ha
  have := Rch.step (T := T) (s := s) .refl ge
  rw [e1] at this
  exact this
/-! a stand that comes again: its lap begins at once -/
theorem lap_zero (l : Lawful T k n) {r a L ah : Nat} (hr : r < T.length) (ha : a < k) (bk : Bk T r) (lp : Lap T a r L ah) (nd : (pathN T a r L).Nodup) : ah = 0 := by
  by_cases h0 : ah = 0
  · exact h0
  · exfalso
    have xl : nxN T a r < T.length := endN_lt l hr ha 1
    obtain ⟨d, gd, ed⟩ := rch_word l xl (bk _ xl (rch_nx l hr ha))
    have back : ∀ m, wE T d (endN T a (m + 1) r) = endN T a m r := fun m => by
      rw [Nat.add_comm, endN_add]
      have := (w_comm l (Gd.one (m := m) ha) gd (s := nxN T a r) xl).1
      show wE T d (endN T a m (nxN T a r)) = _
      rw [show endN T a m (nxN T a r) = wE T [(a, m)] (nxN T a r) from rfl, this, ed]
      rfl
    have lt := lp.lt
    have e1 := back (L - 1)
    have e2 := back (ah - 1)
    rw [show L - 1 + 1 = L by omega, lp.eq] at e1
    rw [show ah - 1 + 1 = ah by omega] at e2
    have e3 : endN T a (L - 1) r = endN T a (ah - 1) r := e1.symm.trans e2
    have p1 : (pathN T a r L)[L - 1]? = some (endN T a (L - 1) r) := pathN_get (by omega)
    have p2 : (pathN T a r L)[ah - 1]? = some (endN T a (L - 1) r) := by rw [e3]; exact pathN_get (by omega)
    have := nd_ix nd p1 p2
    omega
/-- so many of a letter lead r to itself, no fewer -/
structure Rnd (T : Tab) (a r L : Nat) : Prop where
  pos : 0 < L
  eq : endN T a L r = r
  nd : (pathN T a r L).Nodup
theorem Rnd.one {a r L L' : Nat} (h : Rnd T a r L) (h' : Rnd T a r L') : L = L' := by
  have key : ∀ {L L' : Nat}, Rnd T a r L → Rnd T a r L' → ¬ L < L' := fun {L L'} h h' hl => by
    have p1 : (pathN T a r L')[L]? = some (endN T a L r) := pathN_get hl
    have p2 : (pathN T a r L')[0]? = some (endN T a L r) := by rw [h.eq]; exact pathN_get (i := 0) h'.pos
    have := nd_ix h'.nd p1 p2
    have := h.pos
    omega
  have a1 := key h h'
  have a2 := key h' h
  omega
open Classical in
noncomputable def lapL (T : Tab) (r a : Nat) : Nat := if h : ∃ L, Rnd T a r L then Classical.choose h else 1
theorem lapL_of {a r L : Nat} (h : Rnd T a r L) : lapL T r a = L := by
  unfold lapL
  rw [dif_pos ⟨L, h⟩]
  exact Rnd.one (Classical.choose_spec (⟨L, h⟩ : ∃ L, Rnd T a r L)) h
/-- each letter has its round at r -/
structure Rds (T : Tab) (k r : Nat) : Prop where
  lt : r < T.length
  all : ∀ a, a < k → Rnd T a r (lapL T r a)
  le : ∀ a, a < k → lapL T r a ≤ 60
theorem path_le (l : Lawful T k n) {a r L : Nat} (hr : r < T.length) (ha : a < k) (nd : (pathN T a r L).Nodup) : L ≤ T.length := by
  have := nd_le T.length _ nd fun x hx => by
    unfold pathN at hx
    obtain ⟨y, _, rfl⟩ := List.mem_map.mp hx
    exact endN_lt l hr ha y
  rw [pathN_len] at this
  exact this
/-- each machine's walk by one letter has a lap with unlike stands -/
theorem lap_ex (l : Lawful T k n) {a r : Nat} (hr : r < T.length) (ha : a < k) : ∃ L ah, Lap T a r L ah ∧ (pathN T a r L).Nodup := by
  have key : ∀ m, m ≤ T.length + 1 → (pathN T a r m).Nodup ∨ ∃ L ah, Lap T a r L ah ∧ (pathN T a r L).Nodup := by
    intro m
    induction m with
    | zero => exact fun _ => .inl (by show ([] : List Nat).Nodup; simp)
    | succ m ih =>
      intro hm
      rcases ih (by omega) with nd | h
      · by_cases hx : ∃ i, i < m ∧ endN T a i r = endN T a m r
        · obtain ⟨i, im, e⟩ := hx
          exact .inr ⟨m, i, ⟨im, path_le l hr ha nd, e.symm⟩, nd⟩
        · exact .inl (nd_snoc (f := fun i => endN T a i r) nd fun i hi e => hx ⟨i, hi, e⟩)
      · exact .inr h
  rcases key (T.length + 1) (Nat.le_refl _) with nd | h
  · have := path_le l hr ha nd
    omega
  · exact h
theorem rds_of (l : Lawful T k n) {r : Nat} (hr : r < T.length) (bk : Bk T r) : Rds T k r := by
  have one : ∀ a, a < k → ∃ L, Rnd T a r L ∧ L ≤ 60 := fun a ha => by
    obtain ⟨L, ah, lp, nd⟩ := lap_ex l hr ha
    have z := lap_zero l hr ha bk lp nd
    subst z
    exact ⟨L, ⟨lp.lt, lp.eq, nd⟩, Nat.le_trans lp.le l.n60⟩
  refine ⟨hr, fun a ha => ?_, fun a ha => ?_⟩
  · obtain ⟨L, h, _⟩ := one a ha
    rw [lapL_of h]
    exact h
  · obtain ⟨L, h, h60⟩ := one a ha
    rw [lapL_of h]
    exact h60
end
/-! products -/
def prodF : Nat → (Nat → Nat) → Nat
  | 0, _ => 1
  | m + 1, f => prodF m f * f m
theorem prod_pos {f : Nat → Nat} : ∀ {m : Nat}, (∀ a, a < m → 0 < f a) → 0 < prodF m f
  | 0, _ => Nat.one_pos
  | m + 1, h => Nat.mul_pos (prod_pos fun a ha => h a (by omega)) (h m (by omega))
theorem prod_dvd {f : Nat → Nat} {a : Nat} : ∀ {m : Nat}, a < m → f a ∣ prodF m f
  | 0, h => absurd h (Nat.not_lt_zero _)
  | m + 1, h => by
    by_cases e : a = m
    · rw [e]
      exact Nat.dvd_mul_left _ _
    · exact Nat.dvd_trans (prod_dvd (m := m) (by omega)) (Nat.dvd_mul_right _ _)
theorem prod_le {f : Nat → Nat} : ∀ {m : Nat}, (∀ a, a < m → f a ≤ 60) → prodF m f ≤ 60 ^ m
  | 0, _ => Nat.le_refl _
  | m + 1, h => by
    rw [Nat.pow_succ]
    exact Nat.mul_le_mul (prod_le fun a ha => h a (by omega)) (h m (by omega))
/-! what is sent, less the rates -/
noncomputable def NN (T : Tab) (k r : Nat) : Nat := prodF k (lapL T r)
noncomputable def rtN (T : Tab) (k r a j : Nat) : Int := sntN T a (lapL T r a) r j * ((NN T k r / lapL T r a : Nat) : Int)
noncomputable def rq (T : Tab) (k r j : Nat) : List (Nat × Nat) → Int
  | [] => 0
  | p :: q => rtN T k r p.1 j * (p.2 : Int) + rq T k r j q
noncomputable def fQ (T : Tab) (k r j : Nat) (q : List (Nat × Nat)) (x : Nat) : Int := (NN T k r : Int) * wS T q x j - rq T k r j q
section
variable {T : Tab} {k n r j : Nat}
theorem rq_app (b : List (Nat × Nat)) : ∀ a : List (Nat × Nat), rq T k r j (a ++ b) = rq T k r j a + rq T k r j b
  | [] => by
    show rq T k r j b = 0 + rq T k r j b
    omega
  | p :: a => by
    show _ + rq T k r j (a ++ b) = _ + rq T k r j a + rq T k r j b
    rw [rq_app b a]
    omega
theorem fQ_app (a b : List (Nat × Nat)) (x : Nat) : fQ T k r j (a ++ b) x = fQ T k r j a x + fQ T k r j b (wE T a x) := by
  unfold fQ
  rw [rq_app, wS_app, Int.mul_add]
  omega
theorem fQ_comm (l : Lawful T k n) (hj : j < n) {a b : List (Nat × Nat)} (ga : Gd k a) (gb : Gd k b) {x : Nat} (hx : x < T.length) : fQ T k r j a x + fQ T k r j b (wE T a x) = fQ T k r j b x + fQ T k r j a (wE T b x) := by
  have := (w_comm l ga gb hx).2 j hj
  unfold fQ
  have e : (NN T k r : Int) * (wS T a x j + wS T b (wE T a x) j) = (NN T k r : Int) * (wS T b x j + wS T a (wE T b x) j) := by rw [this]
  rw [Int.mul_add, Int.mul_add] at e
  omega
theorem NN_pos (R : Rds T k r) : 0 < NN T k r := prod_pos fun a ha => (R.all a ha).pos
theorem fQ_round (R : Rds T k r) {a : Nat} (ha : a < k) : fQ T k r j [(a, lapL T r a)] r = 0 := by
  unfold fQ
  show (NN T k r : Int) * (sntN T a (lapL T r a) r j + 0) - (rtN T k r a j * (lapL T r a : Int) + 0) = 0
  unfold rtN
  have d : NN T k r / lapL T r a * lapL T r a = NN T k r := Nat.div_mul_cancel (prod_dvd ha)
  rw [Int.mul_assoc, ← Int.natCast_mul, d, Int.add_zero, Int.add_zero, Int.mul_comm]
  omega
/-- in the class of r -/
def Cls' (T : Tab) (k r x : Nat) : Prop := ∃ d, Gd k d ∧ wE T d r = x
theorem Cls'.lt (l : Lawful T k n) (R : Rds T k r) {x : Nat} (c : Cls' T k r x) : x < T.length := by
  obtain ⟨d, gd, rfl⟩ := c
  exact wE_lt l d R.lt gd
theorem Cls'.to {x : Nat} {q : List (Nat × Nat)} (gq : Gd k q) (c : Cls' T k r x) : Cls' T k r (wE T q x) := by
  obtain ⟨d, gd, rfl⟩ := c
  exact ⟨d ++ q, gd.app gq, wE_app _ _ _⟩
theorem cls_round (l : Lawful T k n) (hj : j < n) (R : Rds T k r) {a x : Nat} (ha : a < k) (c : Cls' T k r x) : endN T a (lapL T r a) x = x ∧ fQ T k r j [(a, lapL T r a)] x = 0 := by
  obtain ⟨d, gd, rfl⟩ := c
  have ga := Gd.one (k := k) (m := lapL T r a) ha
  have e := (w_comm l ga gd R.lt).1
  have e1 : wE T [(a, lapL T r a)] r = r := (R.all a ha).eq
  rw [e1] at e
  refine ⟨e.symm, ?_⟩
  have f := fQ_comm (r := r) l hj ga gd R.lt
  rw [e1, fQ_round R ha] at f
  omega
theorem fQ_split (a m m' x : Nat) : fQ T k r j [(a, m + m')] x = fQ T k r j [(a, m)] x + fQ T k r j [(a, m')] (endN T a m x) := by
  unfold fQ
  show (NN T k r : Int) * (sntN T a (m + m') x j + 0) - (rtN T k r a j * ((m + m' : Nat) : Int) + 0) = (NN T k r : Int) * (sntN T a m x j + 0) - (rtN T k r a j * (m : Int) + 0) + ((NN T k r : Int) * (sntN T a m' (endN T a m x) j + 0) - (rtN T k r a j * (m' : Int) + 0))
  simp only [Int.add_zero]
  rw [sntN_add, Int.natCast_add, Int.mul_add (rtN T k r a j), Int.mul_add]
  omega
theorem cls_mult (l : Lawful T k n) (hj : j < n) (R : Rds T k r) {a x : Nat} (ha : a < k) (c : Cls' T k r x) : ∀ t, endN T a (lapL T r a * t) x = x ∧ fQ T k r j [(a, lapL T r a * t)] x = 0
  | 0 => by
    refine ⟨rfl, ?_⟩
    rw [Nat.mul_zero]
    unfold fQ
    show (NN T k r : Int) * (0 + 0) - (rtN T k r a j * ((0 : Nat) : Int) + 0) = 0
    simp
  | t + 1 => by
    obtain ⟨e, f⟩ := cls_mult l hj R ha c t
    obtain ⟨e1, f1⟩ := cls_round l hj R ha c
    rw [Nat.mul_succ]
    refine ⟨by rw [endN_add, e, e1], ?_⟩
    rw [fQ_split, f, e, f1]
    rfl
def scale (m : Nat) (q : List (Nat × Nat)) : List (Nat × Nat) := q.map fun p => (p.1, m * p.2)
theorem scale_gd {m : Nat} {q : List (Nat × Nat)} (g : Gd k q) : Gd k (scale m q) := fun p hp => by
  obtain ⟨p', h, rfl⟩ := List.mem_map.mp hp
  exact g p' h
theorem cls_scale (l : Lawful T k n) (hj : j < n) (R : Rds T k r) : ∀ {q : List (Nat × Nat)}, Gd k q → ∀ {x : Nat}, Cls' T k r x → wE T (scale (NN T k r) q) x = x ∧ fQ T k r j (scale (NN T k r) q) x = 0
  | [], _, x, c => by
    refine ⟨rfl, ?_⟩
    unfold fQ
    show (NN T k r : Int) * 0 - 0 = 0
    simp
  | p :: q, g, x, c => by
    have hp := g p List.mem_cons_self
    obtain ⟨t, ht⟩ := prod_dvd (f := lapL T r) hp
    obtain ⟨e, f⟩ := cls_mult l hj R hp c (t * p.2)
    rw [← Nat.mul_assoc, show lapL T r p.1 * t = NN T k r from ht.symm] at e f
    obtain ⟨e2, f2⟩ := cls_scale l hj R (q := q) (fun p hp => g p (List.mem_cons_of_mem _ hp)) c
    refine ⟨?_, ?_⟩
    · show wE T (scale (NN T k r) q) (endN T p.1 (NN T k r * p.2) x) = x
      rw [e, e2]
    · have := fQ_app (T := T) (k := k) (r := r) (j := j) [(p.1, NN T k r * p.2)] (scale (NN T k r) q) x
      show fQ T k r j ([(p.1, NN T k r * p.2)] ++ scale (NN T k r) q) x = 0
      rw [this, f, show wE T [(p.1, NN T k r * p.2)] x = x from e, f2]
      rfl
theorem scale_succ (l : Lawful T k n) (hj : j < n) (m : Nat) : ∀ {q : List (Nat × Nat)}, Gd k q → ∀ {x : Nat}, x < T.length → wE T (scale (m + 1) q) x = wE T (scale m q) (wE T q x) ∧ fQ T k r j (scale (m + 1) q) x = fQ T k r j q x + fQ T k r j (scale m q) (wE T q x)
  | [], _, x, _ => by
    refine ⟨rfl, ?_⟩
    show fQ T k r j [] x = fQ T k r j [] x + fQ T k r j [] x
    unfold fQ
    show (NN T k r : Int) * 0 - 0 = (NN T k r : Int) * 0 - 0 + ((NN T k r : Int) * 0 - 0)
    simp
  | p :: q, g, x, hx => by
    have hp := g p List.mem_cons_self
    have gq : Gd k q := fun p hp => g p (List.mem_cons_of_mem _ hp)
    have x1 := endN_lt l hx hp p.2
    have x2 := endN_lt l hx hp ((m + 1) * p.2)
    obtain ⟨e, f⟩ := scale_succ l hj m gq x2
    have em : (m + 1) * p.2 = p.2 + m * p.2 := by rw [Nat.succ_mul, Nat.add_comm]
    have ga := Gd.one (k := k) (m := m * p.2) hp
    have cm := (w_comm l gq ga x1).1
    have cf := fQ_comm (r := r) l hj gq ga x1
    have s1 : endN T p.1 ((m + 1) * p.2) x = endN T p.1 (m * p.2) (endN T p.1 p.2 x) := by rw [em, endN_add]
    refine ⟨?_, ?_⟩
    · show wE T (scale (m + 1) q) (endN T p.1 ((m + 1) * p.2) x) = wE T (scale m q) (endN T p.1 (m * p.2) (wE T q (endN T p.1 p.2 x)))
      rw [e, s1]
      exact congrArg (wE T (scale m q)) cm.symm
    · have a1 := fQ_app (T := T) (k := k) (r := r) (j := j) [(p.1, (m + 1) * p.2)] (scale (m + 1) q) x
      have a2 := fQ_app (T := T) (k := k) (r := r) (j := j) [(p.1, p.2)] q x
      have a3 := fQ_app (T := T) (k := k) (r := r) (j := j) [(p.1, m * p.2)] (scale m q) (wE T q (endN T p.1 p.2 x))
      have a4 := fQ_split (T := T) (k := k) (r := r) (j := j) p.1 p.2 (m * p.2) x
      show fQ T k r j ([(p.1, (m + 1) * p.2)] ++ scale (m + 1) q) x = fQ T k r j ([(p.1, p.2)] ++ q) x + fQ T k r j ([(p.1, m * p.2)] ++ scale m q) (wE T q (endN T p.1 p.2 x))
      rw [a1, a2, a3]
      have b1 : wE T [(p.1, (m + 1) * p.2)] x = endN T p.1 ((m + 1) * p.2) x := rfl
      have b2 : wE T [(p.1, p.2)] x = endN T p.1 p.2 x := rfl
      have b3 : wE T [(p.1, m * p.2)] (wE T q (endN T p.1 p.2 x)) = endN T p.1 (m * p.2) (wE T q (endN T p.1 p.2 x)) := rfl
      have b4 : wE T [(p.1, m * p.2)] (endN T p.1 p.2 x) = endN T p.1 (m * p.2) (endN T p.1 p.2 x) := rfl
      rw [b1, b2, b3, f]
      rw [b4] at cm cf
      rw [show endN T p.1 (m * p.2) (wE T q (endN T p.1 p.2 x)) = wE T q (endN T p.1 (m * p.2) (endN T p.1 p.2 x)) from cm, ← s1]
      rw [← s1] at cf
      rw [← em] at a4
      rw [a4]
      omega
/-- in the class: what is sent less the rates hangs on the end alone -/
theorem cls_same (l : Lawful T k n) (hj : j < n) (R : Rds T k r) {q q' : List (Nat × Nat)} (g : Gd k q) (g' : Gd k q') {x : Nat} (c : Cls' T k r x) (e : wE T q x = wE T q' x) : fQ T k r j q x = fQ T k r j q' x := by
  have key : ∀ m x, Cls' T k r x → wE T q x = wE T q' x → fQ T k r j (scale m q) x - fQ T k r j (scale m q') x = (m : Int) * (fQ T k r j q x - fQ T k r j q' x) := by
    intro m
    induction m with
    | zero =>
      intro x c e
      have z : ∀ q : List (Nat × Nat), fQ T k r j (scale 0 q) x = 0 := fun q => by
        have : ∀ (q : List (Nat × Nat)) (x : Nat), wS T (scale 0 q) x j = 0 ∧ rq T k r j (scale 0 q) = 0 := by
          intro q
          induction q with
          | nil => exact fun _ => ⟨rfl, rfl⟩
          | cons p q ih =>
            intro x
            obtain ⟨h1, h2⟩ := ih (endN T p.1 (0 * p.2) x)
            refine ⟨?_, ?_⟩
            · show sntN T p.1 (0 * p.2) x j + wS T (scale 0 q) (endN T p.1 (0 * p.2) x) j = 0
              rw [h1, Nat.zero_mul]
              rfl
            · show rtN T k r p.1 j * ((0 * p.2 : Nat) : Int) + rq T k r j (scale 0 q) = 0
              rw [h2, Nat.zero_mul]
              simp
        unfold fQ
        rw [(this q x).1, (this q x).2]
        simp
      rw [z, z]
      simp
    | succ m ih =>
      intro x c e
      have xl := c.lt l R
      have s1 := (scale_succ (r := r) l hj m g xl).2
      have s2 := (scale_succ (r := r) l hj m g' xl).2
      have cm := fQ_comm (r := r) l hj g g' xl
      have cw := (w_comm l g g' xl).1
      rw [e] at cm cw s1
      have i1 := ih (wE T q' x) (c.to g') cw.symm
      rw [s1, s2, Int.natCast_add, Int.add_mul]
      have e1 : fQ T k r j q (wE T q' x) - fQ T k r j q' (wE T q' x) = fQ T k r j q x - fQ T k r j q' x := by omega
      rw [e1] at i1
      have : ((1 : Nat) : Int) * (fQ T k r j q x - fQ T k r j q' x) = fQ T k r j q x - fQ T k r j q' x := by simp
      omega
  have h := key (NN T k r) x c e
  rw [(cls_scale l hj R g c).2, (cls_scale l hj R g' c).2] at h
  have p := NN_pos R
  have z : (NN T k r : Int) * (fQ T k r j q x - fQ T k r j q' x) = 0 := by omega
  rcases Int.mul_eq_zero.mp z with z | z
  · omega
  · omega
/-- from any stand -/
theorem any_same (l : Lawful T k n) (hj : j < n) (R : Rds T k r) {q q' : List (Nat × Nat)} (g : Gd k q) (g' : Gd k q') {x : Nat} (hx : x < T.length) (e : wE T q x = wE T q' x) : fQ T k r j q x = fQ T k r j q' x := by
  obtain ⟨c, gc, ec⟩ := rch_word l l.n1 (l.re x hx)
  obtain ⟨d, gd, ed⟩ := rch_word l l.n1 (l.re r R.lt)
  have cl : Cls' T k r (wE T d x) := ⟨c, gc, by rw [← ed, (w_comm l gd gc l.n1).1, ec]⟩
  have f1 := fQ_comm (r := r) l hj g gd hx
  have f2 := fQ_comm (r := r) l hj g' gd hx
  have c1 := (w_comm l g gd hx).1
  have c2 := (w_comm l g' gd hx).1
  have f3 := cls_same l hj R g g' cl (by rw [← c1, ← c2, e])
  rw [e] at f1
  omega
end
end Hl

set_option Elab.async false
set_option linter.all false
set_option maxRecDepth 100000
set_option maxHeartbeats 4000000
namespace Hl
open PySem PySem.Spec PyProof.Rows L2
/-! some stand comes again -/
theorem rch_trans {T : Tab} {a b c : Nat} (h : Rch T a b) (h' : Rch T b c) : Rch T a c := by
  induction h' with
  | refl => exact h
  | step _ he ih => exact .step ih he
open Classical in
noncomputable def rcL (T : Tab) (s : Nat) : List Nat := (List.range T.length).filter fun j => decide (Rch T s j)
open Classical in
theorem rcL_lt {T : Tab} {s j : Nat} (hs : s < T.length) (h : Rch T s j) (n : ¬ Rch T j s) : (rcL T j).length < (rcL T s).length := by
  have e : rcL T j = (rcL T s).filter fun x => decide (x ∈ rcL T j) := by
    unfold rcL
    rw [List.filter_filter]
    refine List.filter_congr fun x hx => ?_
    by_cases hj : Rch T j x
    · have hsx := rch_trans h hj
      simp [hj, hsx, List.mem_range.mp hx]
    · simp [hj]
  rw [e, List.length_filter_lt_length_iff_exists]
  refine ⟨s, ?_, ?_⟩
  · unfold rcL
    rw [List.mem_filter]
    exact ⟨List.mem_range.mpr hs, decide_eq_true .refl⟩
  · intro hx
    have := of_decide_eq_true hx
    unfold rcL at this
    rw [List.mem_filter] at this
    exact n (of_decide_eq_true this.2)
theorem again_ex {T : Tab} (h1 : 1 ≤ T.length) : ∃ s, s < T.length ∧ Bk T s := by
  have key : ∀ m s, s < T.length → (rcL T s).length = m → ∃ s', s' < T.length ∧ Bk T s' := by
    intro m
    induction m using Nat.strongRecOn with
    | _ m ih =>
      intro s hs e
      by_cases hb : Bk T s
      · exact ⟨s, hs, hb⟩
      · have : ∃ j, j < T.length ∧ Rch T s j ∧ ¬ Rch T j s := by
          by_cases hx : ∃ j, j < T.length ∧ Rch T s j ∧ ¬ Rch T j s
          · exact hx
          · exact absurd (fun j hj h => by
              by_cases hy : Rch T j s
              · exact hy
              · exact absurd ⟨j, hj, h, hy⟩ hx) hb
        obtain ⟨j, hj, h, n⟩ := this
        exact ih _ (by rw [← e]; exact rcL_lt hs h n) j hj rfl
  exact key _ 0 h1 rfl
/-- the first stand that comes again -/
theorem again_head {T : Tab} (h1 : 1 ≤ T.length) : ∃ r rest, againL T T.length = r :: rest ∧ r < T.length ∧ Bk T r := by
  obtain ⟨s, hs, hb⟩ := again_ex h1
  have hin : s ∈ againL T T.length := by
    unfold againL
    rw [List.mem_filter]
    refine ⟨List.mem_range.mpr hs, ?_⟩
    unfold bkB
    classical exact decide_eq_true hb
  cases e : againL T T.length with
  | nil =>
    rw [e] at hin
    cases hin
  | cons r rest =>
    have hr : r ∈ againL T T.length := by rw [e]; exact List.mem_cons_self
    unfold againL at hr
    rw [List.mem_filter] at hr
    refine ⟨r, rest, rfl, List.mem_range.mp hr.1, ?_⟩
    have := hr.2
    unfold bkB at this
    classical exact of_decide_eq_true this
noncomputable def r0 (T : Tab) : Nat := ((againL T T.length)[0]?).getD 0
theorem r0_of {T : Tab} (h1 : 1 ≤ T.length) : (againL T T.length)[0]? = some (r0 T) ∧ r0 T < T.length ∧ Bk T (r0 T) := by
  obtain ⟨r, rest, e, hr, hb⟩ := again_head h1
  have : r0 T = r := by
    unfold r0
    rw [e]
    rfl
  rw [this, e]
  exact ⟨rfl, hr, hb⟩
theorem r0_rds {T : Tab} {k n : Nat} (l : Lawful T k n) : Rds T k (r0 T) := rds_of l (r0_of l.n1).2.1 (r0_of l.n1).2.2
/-! purses in whole numbers -/
noncomputable def N0 (T : Tab) (k : Nat) : Nat := NN T k (r0 T)
noncomputable def rt0 (T : Tab) (k a j : Nat) : Int := rtN T k (r0 T) a j
open Classical in
noncomputable def wd (T : Tab) (k s : Nat) : List (Nat × Nat) := if h : ∃ q, Gd k q ∧ wE T q 0 = s then Classical.choose h else []
noncomputable def phi (T : Tab) (k s j : Nat) : Int := fQ T k (r0 T) j (wd T k s) 0
section
variable {T : Tab} {k n : Nat}
theorem phi_of (l : Lawful T k n) {q : List (Nat × Nat)} (g : Gd k q) {j : Nat} (hj : j < n) : fQ T k (r0 T) j q 0 = phi T k (wE T q 0) j := by
  unfold phi wd
  rw [dif_pos ⟨q, g, rfl⟩]
  obtain ⟨g', e'⟩ := Classical.choose_spec (⟨q, g, rfl⟩ : ∃ q', Gd k q' ∧ wE T q' 0 = wE T q 0)
  exact any_same l hj (r0_rds l) g g' l.n1 e'.symm
theorem phi_walk (l : Lawful T k n) {q : List (Nat × Nat)} (g : Gd k q) {x j : Nat} (hx : x < T.length) (hj : j < n) : fQ T k (r0 T) j q x = phi T k (wE T q x) j - phi T k x j := by
  obtain ⟨c, gc, ec⟩ := rch_word l l.n1 (l.re x hx)
  have h1 := phi_of l gc hj
  have h2 := phi_of l (gc.app g) hj
  rw [fQ_app, wE_app, ec, h1, ec] at h2
  omega
theorem phi_zero (l : Lawful T k n) {j : Nat} (hj : j < n) : phi T k 0 j = 0 := by
  have h := phi_of l (q := []) (fun p hp => by cases hp) hj
  show phi T k (wE T [] 0) j = 0
  rw [← h]
  unfold fQ
  show (NN T k (r0 T) : Int) * 0 - 0 = 0
  simp
theorem phi_step (l : Lawful T k n) {a s j : Nat} (ha : a < k) (hs : s < T.length) (hj : j < n) : phi T k (nxN T a s) j = phi T k s j + (N0 T k : Int) * sdN T a s j - rt0 T k a j := by
  have h := phi_walk l (Gd.one (k := k) (m := 1) ha) hs hj
  unfold fQ at h
  have e1 : wS T [(a, 1)] s j = sdN T a s j := by
    show 0 + sdN T a s j + 0 = _
    omega
  have e2 : rq T k (r0 T) j [(a, 1)] = rtN T k (r0 T) a j := by
    show rtN T k (r0 T) a j * ((1 : Nat) : Int) + 0 = _
    simp
  rw [e1, e2] at h
  show phi T k (wE T [(a, 1)] s) j = _
  unfold N0 rt0
  omega
theorem N0_pos (l : Lawful T k n) : 0 < N0 T k := NN_pos (r0_rds l)
theorem N0_le (l : Lawful T k n) (h3 : k ≤ 3) : N0 T k ≤ 216000 := by
  have h := prod_le (f := lapL T (r0 T)) (m := k) fun a ha => (r0_rds l).le a ha
  have : 60 ^ k ≤ 60 ^ 3 := Nat.pow_le_pow_right (by decide) h3
  have : N0 T k ≤ 60 ^ 3 := Nat.le_trans h this
  omega
theorem snt_bound (l : Lawful T k n) {a s j : Nat} (ha : a < k) (hs : s < T.length) (hj : j < n) : ∀ m, 0 ≤ sntN T a m s j ∧ sntN T a m s j ≤ (m : Int) * 999999
  | 0 => ⟨Int.le_refl _, by show (0 : Int) ≤ _; simp⟩
  | m + 1 => by
    obtain ⟨h1, h2⟩ := snt_bound l ha hs hj m
    obtain ⟨h3, h4⟩ := sdN_val l (endN_lt l hs ha m) ha hj
    have e : sntN T a (m + 1) s j = sntN T a m s j + sdN T a (endN T a m s) j := rfl
    rw [e, Int.natCast_add, Int.add_mul]
    simp only [Int.natCast_one, Int.one_mul]
    omega
/-- a rate in whole numbers -/
theorem rt0_bound (l : Lawful T k n) (h3 : k ≤ 3) {a j : Nat} (ha : a < k) (hj : j < n) : 0 ≤ rt0 T k a j ∧ rt0 T k a j ≤ 12960000000000 := by
  have R := r0_rds l
  obtain ⟨h1, h2⟩ := snt_bound l ha R.lt hj (lapL T (r0 T) a)
  have hL := R.le a ha
  have hN := N0_le l h3
  have hd : NN T k (r0 T) / lapL T (r0 T) a ≤ N0 T k := Nat.div_le_self _ _
  unfold rt0 rtN
  generalize NN T k (r0 T) / lapL T (r0 T) a = D at *
  refine ⟨Int.mul_nonneg h1 (by omega), ?_⟩
  have b1 : sntN T a (lapL T (r0 T) a) (r0 T) j ≤ 60000000 := by
    have : ((lapL T (r0 T) a : Nat) : Int) * 999999 ≤ 60 * 999999 := Int.mul_le_mul_of_nonneg_right (by omega) (by decide)
    omega
  have : sntN T a (lapL T (r0 T) a) (r0 T) j * (D : Int) ≤ 60000000 * 216000 := Int.mul_le_mul b1 (by omega) (by omega) (by decide)
  omega
end
/-! parts with one under -/
theorem low_eq {o u : Int} (h : 0 < u) : lowF o u = [.int (o / gI o u), .int (u / gI o u)] := by
  have g0 := gI_pos (o := o) (u := u) (by omega)
  unfold lowF
  rw [sgn_pos h, Int.fdiv_eq_ediv_of_nonneg _ (by omega), Int.fdiv_eq_ediv_of_nonneg _ (by omega)]
theorem low_mul {o u x y : Int} (h : 0 < u) (e : lowF o u = [.int x, .int y]) : x * u = o * y := by
  rw [low_eq h] at e
  have e1 : o / gI o u = x := V.int.inj (List.cons.inj e).1
  have e2 : u / gI o u = y := V.int.inj (List.cons.inj (List.cons.inj e).2).1
  obtain ⟨a, ha⟩ := gI_dvd_left o u
  obtain ⟨b, hb⟩ := gI_dvd_right o u
  have g0 := gI_pos (o := o) (u := u) (by omega)
  generalize gI o u = g at *
  have x1 : x = a := by rw [← e1, ha]; exact Int.mul_ediv_cancel_left _ (by omega)
  have y1 : y = b := by rw [← e2, hb]; exact Int.mul_ediv_cancel_left _ (by omega)
  rw [x1, y1, ha, hb, Int.mul_comm g b, ← Int.mul_assoc, Int.mul_comm (a * b) g, ← Int.mul_assoc]
theorem low_cross {p q p' q' : Int} (h : 0 < q) (h' : 0 < q') (e : p * q' = p' * q) : lowF p q = lowF p' q' := by
  rw [low_eq h, low_eq h']
  have g0 := gI_pos (o := p) (u := q) (by omega)
  have g0' := gI_pos (o := p') (u := q') (by omega)
  have c : Int.gcd (p / gI p q) (q / gI p q) = 1 := Int.gcd_ediv_gcd_ediv_gcd (by unfold gI at g0; omega)
  have c' : Int.gcd (p' / gI p' q') (q' / gI p' q') = 1 := Int.gcd_ediv_gcd_ediv_gcd (by unfold gI at g0'; omega)
  obtain ⟨a, ha⟩ := gI_dvd_left p q
  obtain ⟨b, hb⟩ := gI_dvd_right p q
  obtain ⟨a', ha'⟩ := gI_dvd_left p' q'
  obtain ⟨b', hb'⟩ := gI_dvd_right p' q'
  generalize gI p q = g at *
  generalize gI p' q' = g' at *
  have i1 : p / g = a := by rw [ha]; exact Int.mul_ediv_cancel_left _ (by omega)
  have i2 : q / g = b := by rw [hb]; exact Int.mul_ediv_cancel_left _ (by omega)
  have i3 : p' / g' = a' := by rw [ha']; exact Int.mul_ediv_cancel_left _ (by omega)
  have i4 : q' / g' = b' := by rw [hb']; exact Int.mul_ediv_cancel_left _ (by omega)
  rw [i1, i2] at c
  rw [i3, i4] at c'
  rw [i1, i2, i3, i4]
  have ec : a * b' = a' * b := by
    rw [ha, hb', ha', hb] at e
    have : (g * g') * (a * b') = (g * g') * (a' * b) := by
      rw [show g * g' * (a * b') = g * a * (g' * b') by rw [Int.mul_assoc, Int.mul_left_comm g' a b', ← Int.mul_assoc], e, show g * g' * (a' * b) = g' * a' * (g * b) by rw [Int.mul_comm g g', Int.mul_assoc, Int.mul_left_comm g a' b, ← Int.mul_assoc]]
    exact Int.eq_of_mul_eq_mul_left (by
      have := Int.mul_pos g0 g0'
      omega) this
  have bp : 0 < b := by
    rcases Int.lt_or_le 0 b with h1 | h1
    · exact h1
    · have := Int.mul_nonpos_of_nonneg_of_nonpos (show 0 ≤ g by omega) h1
      omega
  have bp' : 0 < b' := by
    rcases Int.lt_or_le 0 b' with h1 | h1
    · exact h1
    · have := Int.mul_nonpos_of_nonneg_of_nonpos (show 0 ≤ g' by omega) h1
      omega
  have d1 : b ∣ b' := by
    have h2 : b ∣ a * b' := by rw [ec]; exact Int.dvd_mul_left _ _
    have h3 := Int.dvd_gcd_mul_iff_dvd_mul.mpr h2
    rw [Int.gcd_comm, c] at h3
    simpa using h3
  have d2 : b' ∣ b := by
    have h2 : b' ∣ a' * b := by rw [← ec]; exact Int.dvd_mul_left _ _
    have h3 := Int.dvd_gcd_mul_iff_dvd_mul.mpr h2
    rw [Int.gcd_comm, c'] at h3
    simpa using h3
  have eb : b = b' := Int.dvd_antisymm (by omega) (by omega) d1 d2
  subst eb
  have ea : a = a' := Int.eq_of_mul_eq_mul_right (by omega) ec
  rw [ea]
theorem low_int {s N : Int} (h : 0 < N) : [V.int s, .int 1] = lowF (N * s) N := by
  rw [← low_cross (p := s) (q := 1) (by decide) h (by rw [Int.mul_one, Int.mul_comm]), low_eq (by decide)]
  have : gI s 1 = 1 := by
    unfold gI
    rw [Int.gcd_one_right]
    rfl
  rw [this, Int.ediv_one, Int.ediv_one]
theorem low_plus {X Y N x y z u : Int} (h : 0 < N) (p : P2 (lowF X N) x y) (q : P2 (lowF Y N) z u) : lowF (nPlus x y z u) (y * u) = lowF (X + Y) N := by
  have e1 := low_mul h p.e
  have e2 := low_mul h q.e
  refine low_cross (Int.mul_pos p.y0 q.y0) h ?_
  unfold nPlus
  rw [Int.add_mul, Int.add_mul, show x * u * N = x * N * u by rw [Int.mul_assoc, Int.mul_comm u N, ← Int.mul_assoc], show z * y * N = z * N * y by rw [Int.mul_assoc, Int.mul_comm y N, ← Int.mul_assoc], e1, e2, show Y * u * y = Y * (y * u) by rw [Int.mul_assoc, Int.mul_comm u y], Int.mul_assoc]
theorem low_less {X Y N x y z u : Int} (h : 0 < N) (p : P2 (lowF X N) x y) (q : P2 (lowF Y N) z u) : lowF (nLess x y z u) (y * u) = lowF (X - Y) N := by
  have e1 := low_mul h p.e
  have e2 := low_mul h q.e
  refine low_cross (Int.mul_pos p.y0 q.y0) h ?_
  unfold nLess
  rw [Int.sub_mul, Int.sub_mul, show x * u * N = x * N * u by rw [Int.mul_assoc, Int.mul_comm u N, ← Int.mul_assoc], show z * y * N = z * N * y by rw [Int.mul_assoc, Int.mul_comm y N, ← Int.mul_assoc], e1, e2, show Y * u * y = Y * (y * u) by rw [Int.mul_assoc, Int.mul_comm u y], Int.mul_assoc]
theorem low_minus {X N x y : Int} (h : 0 < N) (e : lowF X N = [.int x, .int y]) : [V.int (0 - x), .int y] = lowF (-X) N := by
  rw [low_eq h] at e ⊢
  have e1 : X / gI X N = x := V.int.inj (List.cons.inj e).1
  have e2 : N / gI X N = y := V.int.inj (List.cons.inj (List.cons.inj e).2).1
  rw [gI_neg, ← e1, ← e2, Int.neg_ediv_of_dvd (gI_dvd_left X N), Int.zero_sub]
theorem low_rate {T : Tab} {k n a j : Nat} (l : Lawful T k n) (ha : a < k) : lowF (sntN T a (lapL T (r0 T) a) (r0 T) j) (lapL T (r0 T) a : Nat) = lowF (rt0 T k a j) (N0 T k : Nat) := by
  have R := r0_rds l
  have p1 := (R.all a ha).pos
  have p2 := N0_pos l
  refine low_cross (by omega) (by omega) ?_
  unfold rt0 rtN N0
  have d : NN T k (r0 T) / lapL T (r0 T) a * lapL T (r0 T) a = NN T k (r0 T) := Nat.div_mul_cancel (prod_dvd ha)
  rw [Int.mul_assoc, ← Int.natCast_mul, d]
end Hl

set_option Elab.async false
set_option linter.all false
set_option maxRecDepth 100000
set_option maxHeartbeats 4000000
namespace Hl
open PySem PySem.Spec PyProof.Rows L2
/-- a part X / N -/
def PtAt (H : Hp) (N : Int) (v : V) (X : Int) : Prop := ∃ a, v = .ref a ∧ H a = some (.tup (lowF X N))
def PtsAt (H : Hp) (N : Int) (v : V) (Xs : List Int) : Prop := ∃ b vs, v = .ref b ∧ H b = some (.lst vs) ∧ Paired (PtAt H N) vs Xs
theorem PtAt.same {H H' : Hp} {N : Int} {v : V} {X : Int} (k : Same H H') (h : PtAt H N v X) : PtAt H' N v X := let ⟨a, e, h⟩ := h; ⟨a, e, k _ _ h⟩
theorem PtsAt.same {H H' : Hp} {N : Int} {v : V} {X : List Int} (k : Same H H') (h : PtsAt H N v X) : PtsAt H' N v X := let ⟨b, vs, e, h, p⟩ := h; ⟨b, vs, e, k _ _ h, paired_mono (fun _ _ => PtAt.same k) p⟩
theorem PtsAt.st {H : Hp} {N : Int} {D b : Addr} {ds : List V} {Xs : List Int} (hD : H D = some (.lst ds)) (n : b ≠ D) (h : PtsAt H N (.ref b) Xs) : PtsAt (st [D] H) N (.ref b) Xs := by
  obtain ⟨b', vs, e, h1, p⟩ := h
  cases e
  refine ⟨b, vs, rfl, by rw [st_get (by simp [n])]; exact h1, paired_mono (fun v X ⟨a, e, ha⟩ => ⟨a, e, ?_⟩) p⟩
  have : a ≠ D := fun z => by
    rw [z, hD] at ha
    cases ha
  rw [st_get (by simp [this])]
  exact ha
noncomputable def ratesL (T : Tab) (k n a : Nat) : List Int := vec n (rt0 T k a)
def RatesAt (H : Hp) (q : Addr) (T : Tab) (k n : Nat) : Prop := ∃ vs, H q = some (.lst vs) ∧ Paired (fun v a => PtsAt H (N0 T k) v (ratesL T k n a)) vs (List.range k)
theorem RatesAt.same {H H' : Hp} {q : Addr} {T : Tab} {k n : Nat} (s : Same H H') (h : RatesAt H q T k n) : RatesAt H' q T k n := let ⟨vs, h, p⟩ := h; ⟨vs, s _ _ h, paired_mono (fun _ _ => PtsAt.same s) p⟩
theorem sum_path (T : Tab) (a r j : Nat) : ∀ m, ((List.range m).map fun i => sdN T a (endN T a i r) j).sum = sntN T a m r j
  | 0 => rfl
  | m + 1 => by
    rw [List.range_succ, List.map_append, List.sum_append, sum_path T a r j m]
    show _ + (sdN T a (endN T a m r) j + 0) = sntN T a m r j + sdN T a (endN T a m r) j
    omega
theorem e100 : (2 : Nat) ^ 100 = 1267650600228229401496703205376 := by decide
def Big (X : Int) : Prop := X.natAbs < 2 ^ 90
theorem e90 : (2 : Nat) ^ 90 = 1237940039285380274899124224 := by decide
theorem Big.p2 {X N : Int} (h : Big X) (n0 : 0 < N) (nb : N ≤ 216000) : ∃ x y, P2 (lowF X N) x y := lowP n0 (by unfold Big at h; rw [e90] at h; rw [e100]; omega) (by rw [e100]; omega)
theorem low_one' {s N : Int} (h : 0 < N) : lowF s 1 = lowF (N * s) N := low_cross (by decide) h (by rw [Int.mul_one, Int.mul_comm])
theorem PtsAt.st2 {H : Hp} {N : Int} {D E b : Addr} {ds : List V} {es : List (Key × V)} {Xs : List Int} (hD : H D = some (.lst ds)) (hE : H E = some (.dK es)) (n1 : b ≠ D) (n2 : b ≠ E) (h : PtsAt H N (.ref b) Xs) : PtsAt (Hl.st [D, E] H) N (.ref b) Xs := by
  obtain ⟨b', vs, e, h1, p⟩ := h
  cases e
  refine ⟨b, vs, rfl, by rw [st_get (by simp [n1, n2])]; exact h1, paired_mono (fun v X ⟨a, e, ha⟩ => ⟨a, e, ?_⟩) p⟩
  have z1 : a ≠ D := fun z => by
    rw [z, hD] at ha
    cases ha
  have z2 : a ≠ E := fun z => by
    rw [z, hE] at ha
    cases ha
  rw [st_get (by simp [z1, z2])]
  exact ha
/-! purses by stands -/
def PuEnt (H0 H : Hp) (N : Int) (n : Nat) (f : Nat → Nat → Int) (kv : Key × V) (s : Nat) : Prop := ∃ b, kv = (Sum.inl ((s : Nat) : Int), .ref b) ∧ H0 b = none ∧ PtsAt H N (.ref b) (vec n (f s))
theorem PuEnt.same {H0 H H' : Hp} {N : Int} {n : Nat} {f : Nat → Nat → Int} {kv : Key × V} {s : Nat} (k : Same H H') (h : PuEnt H0 H N n f kv s) : PuEnt H0 H' N n f kv s := let ⟨b, e, z, p⟩ := h; ⟨b, e, z, p.same k⟩
theorem pu_val {H0 H : Hp} {N : Int} {n : Nat} {f : Nat → Nat → Int} {t : Nat} : ∀ {kvs : List (Key × V)} {found : List Nat}, Paired (PuEnt H0 H N n f) kvs found → (t ∉ found ∧ valV kvs (Sum.inl ((t : Nat) : Int)) = none ∧ (kvs.any fun kv => decide (kv.1 = (Sum.inl ((t : Nat) : Int) : Key))) = false) ∨ (t ∈ found ∧ ∃ b, valV kvs (Sum.inl ((t : Nat) : Int)) = some (.ref b) ∧ H0 b = none ∧ PtsAt H N (.ref b) (vec n (f t)))
  | _, _, .nil => .inl ⟨by simp, rfl, rfl⟩
  | _, _, .cons (b := s) ⟨b, e, z, p⟩ r => by
    rw [e]
    by_cases h : s = t
    · subst h
      exact .inr ⟨List.mem_cons_self, b, valV_eq, z, p⟩
    · have ne : ¬ (Sum.inl ((s : Nat) : Int) : Key) = Sum.inl ((t : Nat) : Int) := fun x => h (by have := Sum.inl.inj x; omega)
      rw [valV_ne ne]
      rcases pu_val (t := t) r with ⟨h1, h2, h3⟩ | ⟨h1, b', h2, h3, h4⟩
      · refine .inl ⟨fun x => ?_, h2, ?_⟩
        · rcases List.mem_cons.mp x with x | x
          · exact h x.symm
          · exact h1 x
        · rw [List.any_cons, h3, decide_eq_false ne]
          rfl
      · exact .inr ⟨List.mem_cons_of_mem _ h1, b', h2, h3, h4⟩
theorem put_new {kvs : List (Key × V)} {k : Key} {v : V} (h : (kvs.any fun kv => decide (kv.1 = k)) = false) : putK kvs k v = kvs ++ [(k, v)] := by
  unfold putK
  rw [if_neg (by rw [h]; exact Bool.false_ne_true)]
noncomputable def phiL (T : Tab) (k n s : Nat) : List Int := vec n (phi T k s)
/-- purses told: all lists are new -/
def PursN (H0 H : Hp) (q : Addr) (T : Tab) (k n : Nat) : Prop := ∃ vs, H q = some (.lst vs) ∧ Paired (fun v s => ∃ b, v = .ref b ∧ H0 b = none ∧ b ≠ q ∧ PtsAt H (N0 T k) (.ref b) (vec n (phi T k s))) vs (List.range T.length)
def PhB (T : Tab) (k n : Nat) : Prop := ∀ s, s < T.length → ∀ j, j < n → (phi T k s j).natAbs ≤ 1200000000000000
end Hl

set_option Elab.async false
set_option linter.all false
set_option maxRecDepth 100000
set_option maxHeartbeats 4000000
namespace Hl
open PySem PySem.Spec PyProof.Rows L2
/-! zip of a list and a tuple of one length -/
def Itzm (K : PySem.W.Frag) (a b : Addr) : It :=
  ⟨fun i H => ∃ (xs ys : List V), SqL K H a xs ∧ SqT K H b ys ∧ i < xs.length ∧ i < ys.length,
    fun i H v H' => ∃ T x y, v = .ref T ∧ H T = none ∧ H' = upd H T (.tup [x, y]) ∧ (∀ xs, SqL K H a xs → xs[i]? = some x) ∧ ∀ ys, SqT K H b ys → ys[i]? = some y,
    fun i H => ∃ xs ys : List V, SqL K H a xs ∧ SqT K H b ys ∧ xs.length = i ∧ ys.length = i⟩
theorem sep2 (I a b : Nat) (h1 : a < I) (h2 : b < I) : ZipSep2 (I + 4) (I + 2) (I + 3) I (I + 1) [I, a] [I + 1, b] := by
  constructor <;> simp <;> (intro e; have e' : (_ : Nat) = (_ : Nat) := e; clear e; omega)
theorem turn_zipm {P : Program} {w : World} {K : PySem.W.Frag} {elts : List Expr} {kk : Nat} {tpos : Pos} {a b z TI TO i1 i2 : Addr} (D : ZipSep2 z TI TO i1 i2 [i1, a] [i2, b]) (n1 : a ≠ i1) (n2 : b ≠ i2) :
    Turn P w K (.Tuple elts kk tpos) (Itzm K a b) [z, TI, TO, i1, i2] z (fun i h => IsZip h z TI TO .none ∧ IsTupOf2 h TI (.ref i1) (.ref i2) ∧ (∃ x y, IsTupOf2 h TO x y) ∧ h.IsListIter i1 a i ∧ h.IsTupleIter i2 b i) where
  mem := by simp
  obj := fun i h st d hd => by
    obtain ⟨hz, hTI, ⟨x, y, hTO⟩, ⟨o1, e1, _, d1⟩, ⟨o2, e2, _, d2⟩⟩ := st
    have e' : d = z ∨ d = TI ∨ d = TO ∨ d = i1 ∨ d = i2 := by simpa using hd
    rcases e' with q | q | q | q | q
    · rw [q]; exact ⟨_, hz, fun v q => nomatch q⟩
    · rw [q]; exact ⟨_, hTI, fun v q => nomatch q⟩
    · rw [q]; exact ⟨_, hTO, fun v q => nomatch q⟩
    · rw [q]; exact ⟨o1, e1, fun v q => by rw [d1] at q; cases q⟩
    · rw [q]; exact ⟨o2, e2, fun v q => by rw [d2] at q; cases q⟩
  keep := fun i h h' st k => by
    obtain ⟨hz, hTI, ⟨x, y, hTO⟩, h1, h2⟩ := st
    exact ⟨k z (by simp) _ hz, k TI (by simp) _ hTI, ⟨x, y, k TO (by simp) _ hTO⟩, h1.at fun o q => k i1 (by simp) o q, h2.at fun o q => k i2 (by simp) o q⟩
  item := by
    intro X hP hw hK hc i pins s σ H E I hf st hg
    subst hP hw hK
    obtain ⟨hz, hTI, ⟨x0, y0, hTO⟩, h1, h2⟩ := st
    obtain ⟨xs, ys, hqx, hqy, lx, ly⟩ := hg
    obtain ⟨t1, rv1, p1, _⟩ := I.list hqx
    obtain ⟨t2, rv2, p2, _⟩ := I.tuple hqy
    have hh : X.A.in1.handled = none := I.ok.hd hc
    have hzl : z < s.heap.objs.size := Heap.lt_size hz
    refine wpAny_pyNext_zipD2_item D (Draws.list hh i1 a n1 t1.toArray) (Draws.tuple hh i2 b n2 t2.toArray) hz hTI hTO ⟨h1, p1.isList⟩ ⟨h2, p2⟩
      (by have := rv1.length; simp; omega) (by have := rv2.length; simp; omega) ?_
    intro u1 u2 h' tk q1 q2 z' TO' d1 d2 hT hsz hk
    obtain ⟨x, hx, rx⟩ : ∃ x, xs[i]? = some x ∧ RelV x u1 := by
      obtain ⟨u, hu, ru⟩ := rv1.get (List.getElem?_eq_getElem lx)
      have e1 : t1[i]? = some u1 := by simpa using q1
      rw [hu] at e1
      cases e1
      exact ⟨_, List.getElem?_eq_getElem lx, ru⟩
    obtain ⟨y, hy, ry⟩ : ∃ x, ys[i]? = some x ∧ RelV x u2 := by
      obtain ⟨u, hu, ru⟩ := rv2.get (List.getElem?_eq_getElem ly)
      have e1 : t2[i]? = some u2 := by simpa using q2
      rw [hu] at e1
      cases e1
      exact ⟨_, List.getElem?_eq_getElem ly, ru⟩
    refine ⟨_, rfl, wpAny_letOwnedTupleGo_zip (s := { s with heap := h', toks := tk }) z' fun h'' z'' sb => ?_⟩
    have hT2 : h''.get? s.heap.objs.size = some { cls := .type "tuple", data := .seq #[u1, u2] } := (sb.2 _ (Nat.ne_of_gt hzl)).trans hT
    have new : ObjOk X.prog X.w (upd H s.heap.objs.size (.tup [x, y])) h'' s.heap.objs.size (.tup [x, y]) :=
      ⟨by show 2 ≤ sizeLine; decide, [u1, u2], .cons rx (.cons ry .nil), ⟨_, hT2, rfl, _, rfl⟩⟩
    have I1 := I.turnedNew (t' := tk) (ch := [z, TI, TO, i1, i2]) (h' := h'') (fun d o hb q => (sb.2 d (fun q' => hb (by simp [q']))).trans
      (hk d o (fun q' => hb (by simp [q'])) (fun q' => hb (by simp [q'])) (fun q' => hb (by simp [q'])) (fun q' => hb (by simp [q'])) q)) hf (Nat.le_refl _) new
    have ti1 : i1 ≠ z := D.zi1.symm
    have ti2 : i2 ≠ z := D.zi2.symm
    refine ⟨.ref s.heap.objs.size, _, I1, rfl, ⟨_, x, y, rfl, I.hok.fresh (Nat.le_refl _), rfl, fun l hl => by rw [I.list_inj hl hqx]; exact hx, fun l hl => by rw [I.tuple_inj hl hqy]; exact hy⟩, ⟨z'', ?_, ⟨u1, u2, ?_⟩, ?_, ?_⟩, fun d hdm => ?_⟩
    · exact (sb.2 _ D.TIz).trans (hk _ _ D.TIz D.TITO D.TIi1 D.TIi2 hTI)
    · exact (sb.2 _ D.TOz).trans TO'
    · exact d1.1.at fun o q => (sb.2 _ ti1).trans q
    · exact d2.1.at fun o q => (sb.2 _ ti2).trans q
    · have hlt : d < s.heap.objs.size := by
        have e' : d = z ∨ d = TI ∨ d = TO ∨ d = i1 ∨ d = i2 := by simpa using hdm
        rcases e' with q | q | q | q | q
        · rw [q]; exact hzl
        · rw [q]; exact Heap.lt_size hTI
        · rw [q]; exact Heap.lt_size hTO
        · rw [q]; obtain ⟨_, e1, _⟩ := h1; exact Heap.lt_size e1
        · rw [q]; obtain ⟨_, e2, _⟩ := h2; exact Heap.lt_size e2
      rw [upd_ne (Nat.ne_of_lt hlt)]
      exact (hf d hdm).1
  done := by
    intro X hP hw hK hc i pins s σ H E I hf st hg
    subst hP hw hK
    obtain ⟨hz, hTI, ⟨x0, y0, hTO⟩, h1, h2⟩ := st
    obtain ⟨xs, ys, hqx, hqy, lx, ly⟩ := hg
    obtain ⟨t1, rv1, p1, _⟩ := I.list hqx
    obtain ⟨t2, rv2, p2, _⟩ := I.tuple hqy
    have l1 := rv1.length
    have l2 := rv2.length
    have hh : X.A.in1.handled = none := I.ok.hd hc
    refine wpAny_pyNext_zipD2_end D (Draws.list hh i1 a n1 t1.toArray) (Draws.tuple hh i2 b n2 t2.toArray) hz hTI hTO ⟨h1, p1.isList⟩ ⟨h2, p2⟩
      (by simp; omega) (by simp; omega) (.inl (by simp; omega)) ?_
    intro h' tk hk
    exact ⟨rfl, I.turnedL (t' := tk) (ch := [z, TI, TO, i1, i2]) (fun d o hb q =>
      hk d o (fun q' => hb (by simp [q'])) (fun q' => hb (by simp [q'])) (fun q' => hb (by simp [q'])) (fun q' => hb (by simp [q'])) q) hf⟩
  self := fun A i s Q E st h => wpAny_pyIter_zip st.1 h
def iZipm (K : PySem.W.Frag) (ta : TA) : TI := fun σ H R => ta σ H fun vs H1 => ∃ a b xs ys, vs = [.ref a, .ref b] ∧ SqL K H1 a xs ∧ SqT K H1 b ys ∧ R (Itzm K a b) H1
theorem pi_zipm {X : Cx} {e e2 : Expr} {ta : TA} {p pos tpos : Pos} {elts : List Expr} {kk : Nat} (hg : Gl X "zip") (hm : X.mg "zip" = none) (ha : PA X [e, e2] ta)
    (hs : starEach [e, e2] X.env = (false, eval e X.env) :: starEach [e2] X.env := by rfl) (hpl : (backTo pos (starEach [e2] X.env)).any (·.1) = false := by rfl) :
    PI X (.Tuple elts kk tpos) (.Call (.Name "zip" p) [e, e2] [] pos) (iZipm X.K ta) := by
  constructor
  intro pins s σ H R I h
  refine Call_ (ld_blt I hg hm PyProof.Rows.boot_zip (PyProof.Rows.callWith_type1 (thn (ha.run pos pins s σ H _ I h) ?_) hs hpl))
  rintro us s1 ⟨vs, H1, I1, r1, a, b, xs, ys, rfl, hqx, hqy, q⟩
  cases r1 with
  | cons ra rr =>
    cases rr with
    | cons rb rr =>
      cases rr
      cases ra
      cases rb
      obtain ⟨t1, rv1, p1, _⟩ := I1.list hqx
      obtain ⟨t2, rv2, p2, _⟩ := I1.tuple hqy
      have la : a < s1.heap.objs.size := p1.lt
      have lb : b < s1.heap.objs.size := by
        obtain ⟨o, ho, _⟩ := p2
        exact Heap.lt_size ho
      refine zip_begins2 (begins_list a t1.toArray) (begins_tuple b t2.toArray) p1.isList p2 fun h' hz hTI hTO g1 g2 hsz hk => wpAny_pyIter_zip hz ?_
      have I2 : Inv X pins σ H1 { s1 with heap := h' } := I1.kept (t' := s1.toks) hk
      refine ⟨s1.heap.objs.size + 4, [s1.heap.objs.size + 4, s1.heap.objs.size + 2, s1.heap.objs.size + 3, s1.heap.objs.size, s1.heap.objs.size + 1], _, _, H1, rfl, I2,
        turn_zipm (sep2 s1.heap.objs.size a b la lb) (Nat.ne_of_lt la) (Nat.ne_of_lt (Nat.lt_of_lt_of_le lb (Nat.le_add_right _ 1))), ⟨hz, hTI, ⟨_, _, hTO⟩, ⟨_, g1, rfl, rfl⟩, ⟨_, g2, rfl, rfl⟩⟩, fun d hdm => ?_, q⟩
      have hle : s1.heap.objs.size ≤ d := by
        simp only [List.mem_cons, List.not_mem_nil, or_false] at hdm
        rcases hdm with z | z | z | z | z
        · rw [z]; exact Nat.le_add_right _ _
        · rw [z]; exact Nat.le_add_right _ _
        · rw [z]; exact Nat.le_add_right _ _
        · rw [z]; exact Nat.le_refl _
        · rw [z]; exact Nat.le_add_right _ _
      exact I1.fpOk hle (I1.hok.fresh hle)
theorem lc_zipm {K : PySem.W.Frag} {a b : Addr} {xs ys : List V} {g : TG} {tt : TT} {te : TE} {vs : List Nat} {σ : L2.St} {H1 : Hp} {D : Addr} {Qd : Hp → Prop} (hl : xs.length = ys.length) (Pv : Nat → Hp → Prop) (h0 : Pv 0 (upd H1 D (.lst [])))
    (hq : ∀ i H, Pv i H → SqL K H a xs ∧ SqT K H b ys)
    (hs : ∀ (i : Nat) (x y : V) (T : Addr) (H : Hp), xs[i]? = some x → ys[i]? = some y → Pv i H → H T = none → g (.ref T) (wipe σ vs) (upd H T (.tup [x, y])) fun σ2 H2 => wipe σ2 vs = wipe σ vs ∧ tt σ2 H2 fun b H3 =>
      if b = true then te σ2 H3 fun y H4 => ∃ acc, H4 D = some (.lst acc) ∧ acc.length < sizeLine ∧ Pv (i + 1) (upd H4 D (.lst (acc ++ [y]))) else Pv (i + 1) H3) (hd : ∀ H, Pv xs.length H → Qd H) :
    ∃ W : Nat → Nat → Hp → Prop, (∃ m, W 0 m (upd H1 D (.lst []))) ∧ ∀ i m H, W i m H →
      ((Itzm K a b).stop i H ∧ Qd H) ∨ ((Itzm K a b).go i H ∧ ∃ Nx : Hp → Prop, (∀ H', Nx H' → ∃ m', m' < m ∧ W (i + 1) m' H') ∧ ∀ x H', (Itzm K a b).yld i H x H' → g x (wipe σ vs) H' fun σ2 H2 => wipe σ2 vs = wipe σ vs ∧ tt σ2 H2 fun b H3 =>
        if b = true then te σ2 H3 fun y H4 => ∃ acc, H4 D = some (.lst acc) ∧ acc.length < sizeLine ∧ Nx (upd H4 D (.lst (acc ++ [y]))) else Nx H3) := by
  refine ⟨fun i m H => m = xs.length - i ∧ i ≤ xs.length ∧ Pv i H, ⟨xs.length, rfl, Nat.zero_le _, h0⟩, ?_⟩
  rintro i m H ⟨rfl, hi, p⟩
  obtain ⟨qx, qy⟩ := hq i H p
  by_cases hlt : i < xs.length
  · refine .inr ⟨⟨xs, ys, qx, qy, hlt, by omega⟩, Pv (i + 1), fun H' p' => ⟨xs.length - (i + 1), by omega, rfl, hlt, p'⟩, ?_⟩
    rintro v H' ⟨T, x, y, rfl, hT, rfl, f1, f2⟩
    exact hs i x y T H (f1 _ qx) (f2 _ qy) p hT
  · have e : i = xs.length := by omega
    subst e
    exact .inl ⟨⟨xs, ys, qx, qy, rfl, hl.symm⟩, hd H p⟩
theorem lc_zip3 {K : PySem.W.Frag} {a b c : Addr} {xs ys zs : List V} {g : TG} {tt : TT} {te : TE} {vs : List Nat} {σ : L2.St} {H1 : Hp} {D : Addr} {Qd : Hp → Prop} {n : Nat} (hx : xs.length = n) (hy : ys.length = n) (hz : zs.length = n) (Pv : Nat → Hp → Prop) (h0 : Pv 0 (upd H1 D (.lst [])))
    (hq : ∀ i H, Pv i H → SqL K H a xs ∧ SqL K H b ys ∧ SqL K H c zs)
    (hs : ∀ (i : Nat) (x y z : V) (T : Addr) (H : Hp), xs[i]? = some x → ys[i]? = some y → zs[i]? = some z → Pv i H → H T = none → g (.ref T) (wipe σ vs) (upd H T (.tup [x, y, z])) fun σ2 H2 => wipe σ2 vs = wipe σ vs ∧ tt σ2 H2 fun b H3 =>
      if b = true then te σ2 H3 fun y H4 => ∃ acc, H4 D = some (.lst acc) ∧ acc.length < sizeLine ∧ Pv (i + 1) (upd H4 D (.lst (acc ++ [y]))) else Pv (i + 1) H3) (hd : ∀ H, Pv n H → Qd H) :
    ∃ W : Nat → Nat → Hp → Prop, (∃ m, W 0 m (upd H1 D (.lst []))) ∧ ∀ i m H, W i m H →
      ((Itz3 K a b c).stop i H ∧ Qd H) ∨ ((Itz3 K a b c).go i H ∧ ∃ Nx : Hp → Prop, (∀ H', Nx H' → ∃ m', m' < m ∧ W (i + 1) m' H') ∧ ∀ x H', (Itz3 K a b c).yld i H x H' → g x (wipe σ vs) H' fun σ2 H2 => wipe σ2 vs = wipe σ vs ∧ tt σ2 H2 fun b H3 =>
        if b = true then te σ2 H3 fun y H4 => ∃ acc, H4 D = some (.lst acc) ∧ acc.length < sizeLine ∧ Nx (upd H4 D (.lst (acc ++ [y]))) else Nx H3) := by
  refine ⟨fun i m H => m = n - i ∧ i ≤ n ∧ Pv i H, ⟨n, rfl, Nat.zero_le _, h0⟩, ?_⟩
  rintro i m H ⟨rfl, hi, p⟩
  obtain ⟨qx, qy, qz⟩ := hq i H p
  by_cases hlt : i < n
  · refine .inr ⟨⟨xs, ys, zs, qx, qy, qz, by omega, by omega, by omega⟩, Pv (i + 1), fun H' p' => ⟨n - (i + 1), by omega, rfl, hlt, p'⟩, ?_⟩
    rintro v H' ⟨T, x, y, z, rfl, hT, rfl, f1, f2, f3⟩
    exact hs i x y z T H (f1 _ qx) (f2 _ qy) (f3 _ qz) p hT
  · have e : i = n := by omega
    subst e
    exact .inl ⟨⟨xs, ys, zs, qx, qy, qz, hx, hy, hz⟩, hd H p⟩
end Hl

set_option Elab.async false
set_option linter.all false
set_option maxRecDepth 100000
set_option maxHeartbeats 4000000
namespace Hl
open PySem PySem.Spec PyProof.Rows L2
/-- where letters lead, what they send -/
def Told (H : Hp) (t : Addr) (e : Nat) (s : List Int) : Prop := ∃ q, H t = some (.tup [.int e, .ref q]) ∧ H q = some (.lst (s.map V.int))
theorem Told.same {H H' : Hp} {t : Addr} {e : Nat} {s : List Int} (k : Same H H') (h : Told H t e s) : Told H' t e s := by
  obtain ⟨q, h1, h2⟩ := h
  exact ⟨q, k _ _ h1, k _ _ h2⟩
abbrev sWk : Stmt := topS 33
def ones (ps : List Nat) : List (Nat × Nat) := ps.map fun a => (a, 1)
theorem ones_rep {T : Tab} {a : Nat} : ∀ (r s : Nat), wE T (ones (List.replicate r a)) s = endN T a r s ∧ ∀ j, wS T (ones (List.replicate r a)) s j = sntN T a r s j
  | 0, s => ⟨rfl, fun j => rfl⟩
  | r + 1, s => by
    obtain ⟨e, f⟩ := ones_rep (T := T) (a := a) r (endN T a 1 s)
    have e1 := endN_add T a 1 s r
    rw [Nat.add_comm] at e1
    refine ⟨?_, fun j => ?_⟩
    · show wE T (ones (List.replicate r a)) (endN T a 1 s) = _
      rw [e, e1]
    · have s1 := sntN_add T a 1 r s j
      rw [Nat.add_comm 1 r] at s1
      show sntN T a 1 s j + wS T (ones (List.replicate r a)) (endN T a 1 s) j = _
      rw [f, s1]
theorem vec_take {n j : Nat} {f : Nat → Int} (h : j < n) : (vec n f).take (j + 1) = (vec n f).take j ++ [f j] := by
  rw [List.take_add_one, vec_get h]
  rfl
theorem rep_nat (r a : Nat) : (List.replicate r [V.int (a : Nat)]).flatten = natV (List.replicate r a) := by
  unfold natV
  rw [List.map_replicate]
  induction r with
  | zero => rfl
  | succ r ih => rw [List.replicate_succ, List.flatten_cons, ih, List.replicate_succ]; rfl
section
variable {P : Program} {w : World} {K : PySem.W.Frag} {mg : Str → Option Value} {base : Heap}
/-! _law_made -/
/-! _law_walked -/
def spWk : Sp := fun vs H Q _ => ∃ (m i o q qp : Addr) (ins outs : List Str) (T : Tab) (ps : List Nat) (s : Nat), vs = [.ref m, .int s, .ref qp] ∧ Dev H m i o q ins outs T ∧ Lawful T ins.length outs.length ∧ outs.length ≤ 3 ∧ H qp = some (.lst (natV ps)) ∧ (∀ a ∈ ps, a < ins.length) ∧ s < T.length ∧
  ∀ (H' : Hp) (r : Addr), Same H H' → Told H' r (wE T (ones ps) s) (vec outs.length (wS T (ones ps) s)) → Q (.ref r) H'
abbrev nmWk : List Str := ["_law_m", "_law_start", "_law_places", "_law_sent", "_law_place", "_law_sends", "_law_a", "_law_b"]
theorem scWk : FnScope nmWk ["_law_m", "_law_start", "_law_places"] (defScope sWk) := ⟨rfl, rfl, rfl, by decide +kernel, rfl, by decide +kernel, by decide +kernel⟩
theorem ok_wk {f : Addr} {fd : FuncData} {k : Nat} (F : Fun K "_law_walked" "_law_walked" sWk f fd) (B : Bi mg) (J : Bj mg) : FnOk P w K mg base CX0 (k + 1) f fd ["_law_m", "_law_start", "_law_places"] spWk := by
  refine F.ok scWk (fun vs H Q E h => ?_) (fun cdv A outer s H vs Q E hr h => ?_)
  · obtain ⟨m, i, o, q, qp, ins, outs, T, ps, s, rfl, _⟩ := h
    rfl
  · obtain ⟨m, i, o, q, qp, ins, outs, T, ps, s0, rfl, dv, law, o3, hq, pk, sl, Qk⟩ := h
    refine ⟨_, pss_cons (ps_set (i := 3) scWk.nd rfl (.inl rfl) (pe_op op_rep (pe_lst (pa_cons pe_int pa_nil)) (pe_callB call_len_seq (by rfl) B.len PySem.boot_len (pa_cons (pe_dget (hu_of hr) (pv 0) pe_str (fun _ _ => rfl)) pa_nil))))
      (pss_cons (ps_for PassesOwn.never rfl (pi_list (pv 2)) (pg_name (i := 4) scWk.nd rfl (.inl rfl))
        (pss_cons (ps_asg (pe_ix (r := rIx K) ix_seq (pe_ix (r := rIx K) ix_seq (pe_dget (hu_of hr) (pv 0) pe_str (fun _ _ => rfl)) (pv 1) (fun _ _ => rfl)) (pv 4) (fun _ _ => rfl)) (pg_tup rfl (pgs_cons (pg_name (i := 1) scWk.nd rfl (.inl rfl)) (pgs_cons (pg_name (i := 5) scWk.nd rfl (.inl rfl)) pgs_nil))))
        (pss_one (ps_setLc (i := 3) (own := [("_law_a", 6), ("_law_b", 7)]) (g := gTup K 2 (gCons (gName 6) (gCons (gName 7) gNil))) (tt := tYes) rfl scWk.nd rfl rfl (sw_true rfl rfl rfl (by decide +kernel)) (pi_zipm (by rfl) J.zip (pa_cons (pv 3) (pa_cons (pv 5) pa_nil)))
          (blkOk_by (own := [("_law_a", 6), ("_law_b", 7)]) (N := nmWk) (sc := defScope sWk) (by decide +kernel)) (fun _ _ _ _ _ => pg_tup rfl (pgs_cons (pg_name (i := 6) scWk.nd rfl (Or.inl rfl)) (pgs_cons (pg_name (i := 7) scWk.nd rfl (Or.inl rfl)) pgs_nil))) (fun _ _ _ _ _ => pts_nil)
          (fun _ _ _ _ _ => pe_op op_add (pv 6) (pv 7))))))
      (pss_one (ps_ret (pe_tup (pa_cons (pv 1) (pa_cons (pv 3) pa_nil)))))), ?_⟩
    refine ⟨(by show 1 ≤ sizeLine; decide), fun z nz => ?_⟩
    have s1 := same_upd (o := .lst [.int 0]) nz
    have dv1 := dv.same s1
    have lo : (outs.map V.str).length = outs.length := List.length_map _
    refine ⟨_, rfl, m, _, rfl, dv1.go, o, _, rfl, .inl (SqL.of dv1.ho), z, ((outs.map V.str).length : Int), _, rfl, rfl, upd_same, by omega, by omega, ?_, fun D0 n0 => ?_⟩
    · rw [Int.toNat_natCast, lo]
      show 1 * outs.length ≤ sizeLine
      exact Nat.le_of_lt (small1000 (by omega))
    rw [Int.toNat_natCast, rep_one, lo]
    have s2 := s1.trans (same_upd (o := .lst ((List.replicate outs.length (0 : Int)).map V.int)) n0)
    have hD0 : (upd (upd H z (.lst [.int 0])) D0 (.lst ((List.replicate outs.length (0 : Int)).map V.int))) D0 = some (.lst ((List.replicate outs.length (0 : Int)).map V.int)) := upd_same
    have e0 : List.replicate outs.length (0 : Int) = vec outs.length (wS T ((ones ps).take 0) s0) := by
      refine vec_of (List.length_replicate) fun i hi => ?_
      rw [List.getElem?_replicate, if_pos hi]
      rfl
    rw [e0] at hD0 s2 ⊢
    generalize (upd (upd H z (.lst [.int 0])) D0 (.lst ((vec outs.length (wS T ((ones ps).take 0) s0)).map V.int))) = H2 at *
    have lones : (ones ps).length = ps.length := List.length_map _
    refine ⟨_, rfl, qp, rfl, ⟨_, SqL.of (s2 _ _ hq)⟩, ?_⟩
    refine for_list (K := K) (a := qp) (xs := natV ps) (fun i σ H' => ∃ (S : Addr) (v4 v5 : Option V), σ = [some (.ref m), some (.int (wE T ((ones ps).take i) s0 : Nat)), some (.ref qp), some (.ref S), v4, v5, none, none] ∧ Same H H' ∧ H' S = some (.lst ((vec outs.length (wS T ((ones ps).take i) s0)).map V.int)))
      ⟨D0, none, none, rfl, s2, hD0⟩ (fun i σ H' _ ⟨_, _, _, _, sm, _⟩ => SqL.of (sm _ _ hq)) ?_ ?_
    · rintro i' x σ H3 hx ⟨S, v4, v5, rfl, sm3, hS3⟩
      obtain ⟨a, ha, rfl⟩ := natV_get hx
      have ak := pk a (List.mem_of_getElem? ha)
      have dv3 := dv.same sm3
      have el : wE T ((ones ps).take i') s0 < T.length := wE_lt law _ sl fun r hr => by
        obtain ⟨x, hx, rfl⟩ := List.mem_map.mp (List.mem_of_mem_take hr)
        exact pk x hx
      obtain ⟨e, ge, e1, _, ev⟩ := law_at law el ak
      obtain ⟨row, hr1, hr2⟩ := getE_row ge
      obtain ⟨v1, rv1, x1⟩ := rt_row (K := K) dv3.ht.any hr1
      obtain ⟨c1, t1, hc1, ht1, y1⟩ := rr_ent (K := K) rv1 hr2
      rw [ev] at ht1
      rw [e1] at hc1
      refine ⟨_, rfl, m, _, rfl, dv3.gr, _, rfl, x1 _ ⟨_, rfl, y1 _ ⟨c1, _, rfl, SqT.of hc1, rfl, _, _, rfl, _, _, rfl, rfl, ?_⟩⟩⟩
      refine ⟨_, rfl, _, rfl, S, t1, _, _, rfl, SqL.of hS3, SqT.of ht1, fun D nD => ?_⟩
      have ew : (ones ps).take (i' + 1) = (ones ps).take i' ++ [(a, 1)] := by
        rw [List.take_add_one]
        congr 1
        unfold ones
        rw [List.getElem?_map, ha]
        rfl
      refine lc_zipm (K := K) (a := S) (b := t1) (xs := (vec outs.length (wS T ((ones ps).take i') s0)).map V.int) (ys := (vec outs.length (sdN T a (wE T ((ones ps).take i') s0))).map V.int) (by simp only [List.length_map, vec_len])
        (fun j H' => Same H3 H' ∧ H' D = some (.lst (((vec outs.length (wS T ((ones ps).take (i' + 1)) s0)).take j).map V.int))) ⟨same_upd nD, upd_same⟩ (fun j H' ⟨sm, _⟩ => ⟨SqL.of (sm _ _ hS3), SqT.of (sm _ _ ht1)⟩) ?_ ?_
      · rintro j x y T' H4 hx hy ⟨sm4, hD⟩ nT
        obtain ⟨x', hx', rfl⟩ := map_int_get hx
        obtain ⟨y', hy', rfl⟩ := map_int_get hy
        have jl := (List.getElem?_eq_some_iff.mp hx').1
        rw [vec_len] at jl
        rw [vec_get jl] at hx' hy'
        cases Option.some.inj hx'
        cases Option.some.inj hy'
        have sT := same_upd (o := .tup [.int (wS T ((ones ps).take i') s0 j), .int (sdN T a (wE T ((ones ps).take i') s0) j)]) nT
        refine ⟨T', _, rfl, SqT.of upd_same, rfl, _, _, rfl, _, _, rfl, rfl, ?_⟩
        refine ⟨rfl, ?_⟩
        refine ⟨_, rfl, _, rfl, _, _, rfl, rfl, _, sT _ _ hD, ?_, (sm4.trans sT).put nD, ?_⟩
        · rw [List.length_map, List.length_take, vec_len]
          exact small1000 (by omega)
        · rw [upd_same, vec_take jl, List.map_append, ew, wS_snoc]
          have e3 : sntN T a 1 (wE T ((ones ps).take i') s0) j = sdN T a (wE T ((ones ps).take i') s0) j := Int.zero_add _
          rw [e3]
          rfl
      · rintro H4 ⟨sm4, hD⟩
        rw [List.length_map, vec_len, List.take_of_length_le (by rw [vec_len]; exact Nat.le_refl _)] at hD
        refine ⟨D, some (.int (a : Nat)), some (.ref t1), ?_, sm3.trans sm4, hD⟩
        rw [ew, wE_snoc]
        rfl
    · rintro σ H3 ⟨S, v4, v5, rfl, sm3, hS3⟩
      rw [natV_len, List.take_of_length_le (by rw [lones]; exact Nat.le_refl _)] at hS3 ⊢
      refine ⟨_, rfl, _, rfl, (by show 2 ≤ sizeLine; decide), fun r nr => ?_⟩
      have sr := same_upd (o := .tup [.int (wE T (ones ps) s0 : Nat), .ref S]) nr
      exact Qk _ r (sm3.trans sr) ⟨S, upd_same, sr _ _ hS3⟩
end
end Hl

set_option Elab.async false
set_option linter.all false
set_option maxRecDepth 100000
set_option maxHeartbeats 4000000
namespace Hl
open PySem PySem.Spec PyProof.Rows L2
theorem addL_zero : ∀ (e : List Int) (n : Nat), e.length = n → addL (List.replicate n 0) e = e
  | [], 0, _ => rfl
  | x :: e, n + 1, h => by
    have := addL_zero e n (by simpa using h)
    unfold addL at this ⊢
    rw [List.replicate_succ, List.zipWith_cons_cons, this, Int.zero_add]
theorem addL_len {a b : List Int} {n : Nat} (ha : a.length = n) (hb : b.length = n) : (addL a b).length = n := by
  unfold addL
  rw [List.length_zipWith, ha, hb, Nat.min_self]
theorem addL_at {a b : List Int} {j : Nat} {x y : Int} (ha : a[j]? = some x) (hb : b[j]? = some y) : (addL a b)[j]? = some (x + y) := by
  unfold addL
  rw [List.getElem?_zipWith, ha, hb]
structure W2 (T : Tab) (s n : Nat) (e1 e2 : Ent) (i : Nat) (cur : Int) (sent : List Int) : Prop where
  l : sent.length = n
  z : i = 0 → cur = (s : Int) ∧ sent = List.replicate n 0
  o : i = 1 → cur = e1.1 ∧ sent = e1.2
  t : i = 2 → cur = e2.1 ∧ sent = addL e1.2 e2.2
section
variable {P : Program} {w : World} {K : PySem.W.Frag} {mg : Str → Option Value} {base : Heap}
def spWk2 : Sp := fun vs H Q _ => ∃ (m i o q qp : Addr) (ins outs : List Str) (T : Tab) (s a b t : Nat) (e1 e2 : Ent), vs = [.ref m, .int s, .ref qp] ∧ Dev H m i o q ins outs T ∧ outs.length ≤ 3 ∧ H qp = some (.lst [.int (a : Nat), .int (b : Nat)]) ∧ getE T s a = some e1 ∧ e1.1 = (t : Int) ∧ getE T t b = some e2 ∧ e1.2.length = outs.length ∧ e2.2.length = outs.length ∧
  ∀ (H' : Hp) (r : Addr), Same H H' → TwoAt H' r e2.1 (addL e1.2 e2.2) → Q (.ref r) H'
theorem ok_wk2 {f : Addr} {fd : FuncData} {k : Nat} (F : Fun K "_law_walked" "_law_walked" sWk f fd) (B : Bi mg) (J : Bj mg) : FnOk P w K mg base CX0 (k + 1) f fd ["_law_m", "_law_start", "_law_places"] spWk2 := by
  refine F.ok scWk (fun vs H Q E h => ?_) (fun cdv A outer s H vs Q E hr h => ?_)
  · obtain ⟨m, i, o, q, qp, ins, outs, T, s, a, b, t, e1, e2, rfl, _⟩ := h
    rfl
  · obtain ⟨m, i, o, q, qp, ins, outs, T, s0, aa, bb, t, e1, e2, rfl, dv, o3, hq, g1, et, g2, l1, l2, Qk⟩ := h
    refine ⟨_, pss_cons (ps_set (i := 3) scWk.nd rfl (.inl rfl) (pe_op op_rep (pe_lst (pa_cons pe_int pa_nil)) (pe_callB call_len_seq (by rfl) B.len PySem.boot_len (pa_cons (pe_dget (hu_of hr) (pv 0) pe_str (fun _ _ => rfl)) pa_nil))))
      (pss_cons (ps_for PassesOwn.never rfl (pi_list (pv 2)) (pg_name (i := 4) scWk.nd rfl (.inl rfl))
        (pss_cons (ps_asg (pe_ix (r := rIx K) ix_seq (pe_ix (r := rIx K) ix_seq (pe_dget (hu_of hr) (pv 0) pe_str (fun _ _ => rfl)) (pv 1) (fun _ _ => rfl)) (pv 4) (fun _ _ => rfl)) (pg_tup rfl (pgs_cons (pg_name (i := 1) scWk.nd rfl (.inl rfl)) (pgs_cons (pg_name (i := 5) scWk.nd rfl (.inl rfl)) pgs_nil))))
        (pss_one (ps_setLc (i := 3) (own := [("_law_a", 6), ("_law_b", 7)]) (g := gTup K 2 (gCons (gName 6) (gCons (gName 7) gNil))) (tt := tYes) rfl scWk.nd rfl rfl (sw_true rfl rfl rfl (by decide +kernel)) (pi_zipm (by rfl) J.zip (pa_cons (pv 3) (pa_cons (pv 5) pa_nil)))
          (blkOk_by (own := [("_law_a", 6), ("_law_b", 7)]) (N := nmWk) (sc := defScope sWk) (by decide +kernel)) (fun _ _ _ _ _ => pg_tup rfl (pgs_cons (pg_name (i := 6) scWk.nd rfl (Or.inl rfl)) (pgs_cons (pg_name (i := 7) scWk.nd rfl (Or.inl rfl)) pgs_nil))) (fun _ _ _ _ _ => pts_nil)
          (fun _ _ _ _ _ => pe_op op_add (pv 6) (pv 7))))))
      (pss_one (ps_ret (pe_tup (pa_cons (pv 1) (pa_cons (pv 3) pa_nil)))))), ?_⟩
    refine ⟨(by show 1 ≤ sizeLine; decide), fun z nz => ?_⟩
    have s1 := same_upd (o := .lst [.int 0]) nz
    have dv1 := dv.same s1
    have lo : (outs.map V.str).length = outs.length := List.length_map _
    refine ⟨_, rfl, m, _, rfl, dv1.go, o, _, rfl, .inl (SqL.of dv1.ho), z, ((outs.map V.str).length : Int), _, rfl, rfl, upd_same, by omega, by omega, ?_, fun D0 n0 => ?_⟩
    · rw [Int.toNat_natCast, lo]
      show 1 * outs.length ≤ sizeLine
      exact Nat.le_of_lt (small1000 (by omega))
    rw [Int.toNat_natCast, rep_one, lo]
    have s2 := s1.trans (same_upd (o := .lst ((List.replicate outs.length (0 : Int)).map V.int)) n0)
    have hD0 : (upd (upd H z (.lst [.int 0])) D0 (.lst ((List.replicate outs.length (0 : Int)).map V.int))) D0 = some (.lst ((List.replicate outs.length (0 : Int)).map V.int)) := upd_same
    generalize (upd (upd H z (.lst [.int 0])) D0 (.lst ((List.replicate outs.length (0 : Int)).map V.int))) = H2 at *
    refine ⟨_, rfl, qp, rfl, ⟨_, SqL.of (s2 _ _ hq)⟩, ?_⟩
    refine for_list (K := K) (a := qp) (xs := [.int (aa : Nat), .int (bb : Nat)]) (fun i σ H' => ∃ (S : Addr) (v4 v5 : Option V) (cur : Int) (sent : List Int), σ = [some (.ref m), some (.int cur), some (.ref qp), some (.ref S), v4, v5, none, none] ∧ Same H H' ∧ H' S = some (.lst (sent.map V.int)) ∧ W2 T s0 outs.length e1 e2 i cur sent)
      ⟨D0, none, none, _, _, rfl, s2, hD0, ⟨List.length_replicate, fun _ => ⟨rfl, rfl⟩, (fun h => by cases h), (fun h => by cases h)⟩⟩ (fun i σ H' _ ⟨_, _, _, _, _, _, sm, _⟩ => SqL.of (sm _ _ hq)) ?_ ?_
    · rintro i' x σ H3 hx ⟨S, v4, v5, cur, sent, rfl, sm3, hS3, w2⟩
      have hti : i' < 2 := (List.getElem?_eq_some_iff.mp hx).1
      obtain ⟨cN, aN, e, rfl, rfl, ge, sl, fin⟩ : ∃ (cN aN : Nat) (e : Ent), cur = (cN : Int) ∧ x = .int (aN : Nat) ∧ getE T cN aN = some e ∧ e.2.length = outs.length ∧ W2 T s0 outs.length e1 e2 (i' + 1) e.1 (addL sent e.2) := by
        rcases Nat.lt_or_ge i' 1 with h | h
        · have e0 : i' = 0 := by omega
          subst e0
          cases Option.some.inj hx
          obtain ⟨c1, c2⟩ := w2.z rfl
          refine ⟨s0, aa, e1, c1, rfl, g1, l1, ⟨addL_len w2.l l1, (fun h => by cases h), fun _ => ⟨rfl, ?_⟩, (fun h => by cases h)⟩⟩
          rw [c2]
          exact addL_zero _ _ l1
        · have e0 : i' = 1 := by omega
          subst e0
          cases Option.some.inj hx
          obtain ⟨c1, c2⟩ := w2.o rfl
          refine ⟨t, bb, e2, by rw [c1, et], rfl, g2, l2, ⟨addL_len w2.l l2, (fun h => by cases h), (fun h => by cases h), fun _ => ⟨rfl, by rw [c2]⟩⟩⟩
      have dv3 := dv.same sm3
      obtain ⟨row, hr1, hr2⟩ := getE_row ge
      obtain ⟨v1, rv1, x1⟩ := rt_row (K := K) dv3.ht.any hr1
      obtain ⟨c1, t1, hc1, ht1, y1⟩ := rr_ent (K := K) rv1 hr2
      refine ⟨_, rfl, m, _, rfl, dv3.gr, _, rfl, x1 _ ⟨_, rfl, y1 _ ⟨c1, _, rfl, SqT.of hc1, rfl, _, _, rfl, _, _, rfl, rfl, ?_⟩⟩⟩
      refine ⟨_, rfl, _, rfl, S, t1, _, _, rfl, SqL.of hS3, SqT.of ht1, fun D nD => ?_⟩
      have sl' := w2.l
      refine lc_zipm (K := K) (a := S) (b := t1) (xs := sent.map V.int) (ys := e.2.map V.int) (by rw [List.length_map, List.length_map, sl, sl'])
        (fun j H' => Same H3 H' ∧ H' D = some (.lst (((addL sent e.2).take j).map V.int))) ⟨same_upd nD, upd_same⟩ (fun j H' ⟨sm, _⟩ => ⟨SqL.of (sm _ _ hS3), SqT.of (sm _ _ ht1)⟩) ?_ ?_
      · rintro j x y T' H4 hx hy ⟨sm4, hD⟩ nT
        obtain ⟨x', hx', rfl⟩ := map_int_get hx
        obtain ⟨y', hy', rfl⟩ := map_int_get hy
        have jl := (List.getElem?_eq_some_iff.mp hx').1
        have sT := same_upd (o := .tup [.int x', .int y']) nT
        refine ⟨T', _, rfl, SqT.of upd_same, rfl, _, _, rfl, _, _, rfl, rfl, ?_⟩
        refine ⟨rfl, ?_⟩
        refine ⟨_, rfl, _, rfl, _, _, rfl, rfl, _, sT _ _ hD, ?_, (sm4.trans sT).put nD, ?_⟩
        · rw [List.length_map, List.length_take, fin.l]
          exact small1000 (by omega)
        · rw [upd_same, List.take_add_one, addL_at hx' hy', List.map_append]
          rfl
      · rintro H4 ⟨sm4, hD⟩
        rw [List.length_map, List.take_of_length_le (by rw [fin.l, sl']; exact Nat.le_refl _)] at hD
        exact ⟨D, some (.int (aN : Nat)), some (.ref t1), e.1, addL sent e.2, rfl, sm3.trans sm4, hD, fin⟩
    · rintro σ H3 ⟨S, v4, v5, cur, sent, rfl, sm3, hS3, w2⟩
      obtain ⟨c1, c2⟩ := w2.t rfl
      subst c1 c2
      refine ⟨_, rfl, _, rfl, (by show 2 ≤ sizeLine; decide), fun r nr => ?_⟩
      have sr := same_upd (o := .tup [.int e2.1, .ref S]) nr
      exact Qk _ r (sm3.trans sr) ⟨S, upd_same, sr _ _ hS3⟩
end
end Hl

set_option Elab.async false
set_option linter.all false
set_option maxRecDepth 100000
set_option maxHeartbeats 4000000
namespace Hl
open PySem PySem.Spec PyProof.Rows L2
abbrev sHd : Stmt := topS 35
/-- the first stand and letters that heed order -/
structure FH (T : Tab) (k i a b : Nat) : Prop where
  il : i < T.length
  ah : ∀ i', i' < i → ∀ p ∈ lpL k, Eqs T i' p
  lo : ∀ p ∈ lpL k, p.1 < a ∨ (p.1 = a ∧ p.2 < b) → Eqs T i p
  ab : a < b
  bk : b < k
  no : ¬ Eqs T i (a, b)
theorem fh_one {T : Tab} {k i j i' a b : Nat} (k3 : k ≤ 3) (f : FstHd T k i j) (g : FH T k i' a b) : i = i' ∧ (lpL k)[j]?.getD (0, 0) = (a, b) := by
  obtain ⟨il, ah, jh, p, hp, no⟩ := f
  have pin := List.mem_of_getElem? hp
  have gin := lpL_all g.ab g.bk
  have e : i = i' := by
    rcases Nat.lt_trichotomy i i' with h | h | h
    · exact absurd (g.ah i h p pin) no
    · exact h
    · exact absurd (ah i' h _ gin) g.no
  subst e
  refine ⟨rfl, ?_⟩
  rw [hp]
  show p = (a, b)
  obtain ⟨p1, p2⟩ := lpL_mem pin
  have g1 := g.ab
  have g2 := g.bk
  have n1 : ¬ (p.1 < a ∨ (p.1 = a ∧ p.2 < b)) := fun h => no (g.lo p pin h)
  have n2 : ¬ (a < p.1 ∨ (a = p.1 ∧ b < p.2)) := fun h => by
    obtain ⟨j', hj'⟩ := List.getElem?_of_mem gin
    have lt : j' < j := by
      have hk : k = 0 ∨ k = 1 ∨ k = 2 ∨ k = 3 := by omega
      rcases hk with rfl | rfl | rfl | rfl
      · omega
      · omega
      · omega
      · have ml : (lpL 3) = [(0, 1), (0, 2), (1, 2)] := rfl
        rw [ml] at hp hj'
        match j, hp with
        | 0, hp => cases Option.some.inj hp; simp at h; omega
        | 1, hp =>
          cases Option.some.inj hp
          match j', hj' with
          | 0, hj' => omega
          | 1, hj' => cases Option.some.inj hj'; simp at h
          | 2, hj' => cases Option.some.inj hj'; simp at h
        | 2, hp =>
          cases Option.some.inj hp
          match j', hj' with
          | 0, hj' => omega
          | 1, hj' => omega
          | 2, hj' => cases Option.some.inj hj'; simp at h
    exact g.no (jh j' (a, b) lt hj')
  exact Prod.ext (by omega) (by omega)
section
variable {P : Program} {w : World} {K : PySem.W.Frag} {mg : Str → Option Value} {base : Heap}
def spHd : Sp := fun vs H Q _ => ∃ (m i o q : Addr) (ins outs : List Str) (T : Tab), vs = [.ref m] ∧ Dev H m i o q ins outs T ∧ ins.length ≤ 3 ∧ outs.length ≤ 3 ∧ Shp T ins.length outs.length ∧ (NoHd T ins.length → ∀ H', Same H H' → Q .non H') ∧
  (∀ (i a b : Nat) (x y : Str), FH T ins.length i a b → ins[a]? = some x → ins[b]? = some y → ∀ (H' : Hp) (r : Addr), Same H H' → H' r = some (.tup [.str "Heeds", .int (i : Nat), .str x, .str y]) → Q (.ref r) H')
abbrev nmHd : List Str := ["_law_m", "_law_stand", "_law_one", "_law_other"]
theorem scHd : FnScope nmHd ["_law_m"] (defScope sHd) := ⟨rfl, rfl, rfl, by decide +kernel, rfl, by decide +kernel, by decide +kernel⟩
theorem ok_hd {f fW : Addr} {fd fdW : FuncData} {k : Nat} (F : Fun K "_law_heeding" "_law_heeding" sHd f fd) (GW : FnOk P w K mg base CX0 k fW fdW ["_law_m", "_law_start", "_law_places"] spWk2) (kW : PySem.W.keepIn K (.ref fW) = true) (bW : Binds K fdW ["_law_m", "_law_start", "_law_places"] []) (gW : mg "_law_walked" = some (.ref fW)) (B : Bi mg) : FnOk P w K mg base CX0 (k + 1) f fd ["_law_m"] spHd := by
  refine F.ok scHd (fun vs H Q E h => ?_) (fun cdv A outer s H vs Q E hr h => ?_)
  · obtain ⟨m, i, o, q, ins, outs, T, rfl, _⟩ := h
    rfl
  · obtain ⟨m, i0, o0, q0, ins, outs, T, rfl, dv, i3, o3, shp, qn, qh⟩ := h
    refine ⟨_, pss_cons (ps_for PassesOwn.never rfl (pi_range1 (by rfl) B.rng (pa_cons (pe_callB call_len_seq (by rfl) B.len PySem.boot_len (pa_cons (pe_dget (hu_of hr) (pv 0) pe_str (fun _ _ => rfl)) pa_nil)) pa_nil)) (pg_name (i := 1) scHd.nd rfl (.inl rfl))
      (pss_one (ps_for PassesOwn.never rfl (pi_range1 (by rfl) B.rng (pa_cons (pe_callB call_len_seq (by rfl) B.len PySem.boot_len (pa_cons (pe_dget (hu_of hr) (pv 0) pe_str (fun _ _ => rfl)) pa_nil)) pa_nil)) (pg_name (i := 2) scHd.nd rfl (.inl rfl))
        (pss_one (ps_for PassesOwn.never rfl (pi_range2 (by rfl) B.rng (pa_cons (pe_op op_add (pv 2) pe_int) (pa_cons (pe_callB call_len_seq (by rfl) B.len PySem.boot_len (pa_cons (pe_dget (hu_of hr) (pv 0) pe_str (fun _ _ => rfl)) pa_nil)) pa_nil))) (pg_name (i := 3) scHd.nd rfl (.inl rfl))
          (pss_one (ps_if (pt_cmpR (op_neD hr.units) (pe_call GW hr (by rfl) gW kW bW .nil pass0 (pa_cons (pv 0) (pa_cons (pv 1) (pa_cons (pe_lst (pa_cons (pv 2) (pa_cons (pv 3) pa_nil))) pa_nil)))) (pe_call GW hr (by rfl) gW kW bW .nil pass0 (pa_cons (pv 0) (pa_cons (pv 1) (pa_cons (pe_lst (pa_cons (pv 3) (pa_cons (pv 2) pa_nil))) pa_nil)))) (nomark _))
            (pss_one (ps_ret (pe_tup (pa_cons pe_str (pa_cons (pv 1) (pa_cons (pe_ix ix_list (pe_dget (hu_of hr) (pv 0) pe_str (fun _ _ => rfl)) (pv 2) (fun _ _ => rfl)) (pa_cons (pe_ix ix_list (pe_dget (hu_of hr) (pv 0) pe_str (fun _ _ => rfl)) (pv 3) (fun _ _ => rfl)) pa_nil))))))) pss_nil)))))))
      (pss_one (ps_ret pe_non)), ?_⟩
    obtain ⟨vt, hvt, pvt⟩ := id dv.ht
    have lvt := pvt.length
    have n60 := shp.n60
    have li : (ins.map V.str).length = ins.length := List.length_map _
    refine ⟨_, rfl, m, _, rfl, dv.gr, q0, _, rfl, .inl (SqL.of hvt), (vt.length : Int), rfl, by omega, by omega, ?_⟩
    refine for_range (lo := 0) (n := vt.length) (fun i σ H' => ∃ v1 v2 v3 : Option V, σ = [some (.ref m), v1, v2, v3] ∧ Same H H' ∧ ∀ i', i' < i → ∀ p ∈ lpL ins.length, Eqs T i' p) ⟨_, _, _, rfl, Same.refl H, fun i' h => absurd h (Nat.not_lt_zero _)⟩ ?_ ?_
    · rintro i σ H1 hi ⟨v1, v2, v3, rfl, sm1, ah⟩
      have dv1 := dv.same sm1
      have il : i < T.length := by omega
      refine ⟨_, rfl, m, _, rfl, dv1.gi, i0, _, rfl, .inl (SqL.of dv1.hi), ((ins.map V.str).length : Int), rfl, by omega, by omega, ?_⟩
      refine for_range (lo := 0) (n := (ins.map V.str).length) (fun a σ H' => ∃ v2 v3 : Option V, σ = [some (.ref m), some (.int (i : Nat)), v2, v3] ∧ Same H H' ∧ ∀ p ∈ lpL ins.length, p.1 < a → Eqs T i p) ⟨v2, v3, by show [some (V.ref m), some (V.int (0 + (i : Nat))), v2, v3] = _; rw [Int.zero_add], sm1, fun p _ h => absurd h (Nat.not_lt_zero _)⟩ ?_ ?_
      · rintro a σ H2 ha ⟨v2, v3, rfl, sm2, lo1⟩
        have dv2 := dv.same sm2
        have al : a < ins.length := by omega
        refine ⟨_, rfl, _, _, rfl, rfl, _, rfl, m, _, rfl, dv2.gi, i0, _, rfl, .inl (SqL.of dv2.hi), (0 + (a : Nat) + 1 : Int), ((ins.map V.str).length : Int), rfl, ⟨by omega, by omega, by omega, by omega⟩, ?_⟩
        have eN : (((ins.map V.str).length : Int) - (0 + (a : Nat) + 1)).toNat = ins.length - (a + 1) := by omega
        rw [eN]
        refine for_range (lo := (0 + (a : Nat) + 1 : Int)) (n := ins.length - (a + 1)) (fun b σ H' => ∃ v3 : Option V, σ = [some (.ref m), some (.int (i : Nat)), some (.int (a : Nat)), v3] ∧ Same H H' ∧ ∀ p ∈ lpL ins.length, p.1 < a ∨ (p.1 = a ∧ p.2 < a + 1 + b) → Eqs T i p) ⟨v3, by show [some (V.ref m), some (V.int (i : Nat)), some (V.int (0 + (a : Nat))), v3] = _; rw [Int.zero_add], sm2, fun p hp h => ?_⟩ ?_ ?_
        · rcases h with h | ⟨h1, h2⟩
          · exact lo1 p hp h
          · have := (lpL_mem hp).1
            omega
        · rintro b σ H3 hb ⟨v3, rfl, sm3, lo3⟩
          have dv3 := dv.same sm3
          have bl : a + 1 + b < ins.length := by omega
          have eb : (0 + (a : Nat) + 1 + (b : Nat) : Int) = ((a + 1 + b : Nat) : Int) := by omega
          rw [eb]
          generalize hB : a + 1 + b = b' at *
          have ab : a < b' := by omega
          obtain ⟨e1, t1, g1, et1, tl1, sl1⟩ := shp_get shp il al
          obtain ⟨e2, t2, g2, et2, tl2, sl2⟩ := shp_get shp il bl
          obtain ⟨e12, t12, g12, et12, tl12, sl12⟩ := shp_get shp tl1 bl
          obtain ⟨e21, t21, g21, et21, tl21, sl21⟩ := shp_get shp tl2 al
          have hE : Eqs T i (a, b') ↔ e12.1 = e21.1 ∧ addL e1.2 e12.2 = addL e2.2 e21.2 := by
            unfold Eqs two
            simp only [g1, g2, Option.bind_some, et1, et2, Int.toNat_natCast, g12, g21, Option.map_some, Option.some.injEq, Prod.mk.injEq]
          refine ⟨_, rfl, _, rfl, _, rfl, _, rfl, (by show 2 ≤ sizeLine; decide), fun z1 nz1 => ?_⟩
          have sz1 := same_upd (o := .lst [.int (a : Nat), .int (b' : Nat)]) nz1
          refine ⟨m, i0, o0, q0, z1, ins, outs, T, i, a, b', t1, e1, e12, rfl, dv3.same sz1, o3, upd_same, g1, et1, g12, sl1, sl12, fun H4 r4 sm4 tw4 => ?_⟩
          have s4 := sz1.trans sm4
          refine ⟨_, rfl, _, rfl, _, rfl, _, rfl, (by show 2 ≤ sizeLine; decide), fun z2 nz2 => ?_⟩
          have sz2 := same_upd (o := .lst [.int (b' : Nat), .int (a : Nat)]) nz2
          refine ⟨m, i0, o0, q0, z2, ins, outs, T, i, b', a, t2, e2, e21, rfl, (dv3.same s4).same sz2, o3, upd_same, g2, et2, g21, sl2, sl21, fun H5 r5 sm5 tw5 => ?_⟩
          have s5 := sz2.trans sm5
          refine ⟨_, _, (tw4.same s5).dp, tw5.dp, twoD_shaped _ _, twoD_shaped _ _, _, rfl, ?_⟩
          rw [twoD_iff]
          have s35 := (sm3.trans s4).trans s5
          by_cases eq : e12.1 = e21.1 ∧ addL e1.2 e12.2 = addL e2.2 e21.2
          · refine iF (by rw [decide_eq_true eq]; rfl) ⟨_, rfl, s35, fun p hp h => ?_⟩
            by_cases hlt : p.1 < a ∨ (p.1 = a ∧ p.2 < b')
            · exact lo3 p hp hlt
            · have : p = (a, b') := Prod.ext (by omega) (by omega)
              rw [this]
              exact hE.mpr eq
          · refine iT (by rw [decide_eq_false eq]; rfl) ?_
            have dv5 := dv.same s35
            have hx1 : ins[a]? = some ins[a] := List.getElem?_eq_getElem al
            have hx2 : ins[b']? = some ins[b'] := List.getElem?_eq_getElem bl
            have gx1 : (ins.map V.str)[a]? = some (.str ins[a]) := by rw [List.getElem?_map, hx1]; rfl
            have gx2 : (ins.map V.str)[b']? = some (.str ins[b']) := by rw [List.getElem?_map, hx2]; rfl
            refine ⟨_, rfl, _, rfl, m, _, rfl, dv5.gi, _, rfl, i0, _, _, _, rfl, rfl, SqL.of dv5.hi, atI_nat (j := a) gx1, _, rfl, m, _, rfl, dv5.gi, _, rfl, i0, _, _, _, rfl, rfl, SqL.of dv5.hi, atI_nat (j := b') gx2, (by show 4 ≤ sizeLine; decide), fun r nr => ?_⟩
            exact qh i a b' _ _ ⟨il, ah, lo3, ab, bl, fun z => eq (hE.mp z)⟩ hx1 hx2 _ r (s35.trans (same_upd nr)) upd_same
        · rintro σ H3 ⟨v3, rfl, sm3, lo3⟩
          refine ⟨_, _, rfl, sm3, fun p hp h => lo3 p hp ?_⟩
          have := (lpL_mem hp).2
          omega
      · rintro σ H2 ⟨v2, v3, rfl, sm2, lo1⟩
        refine ⟨_, _, _, rfl, sm2, fun i' h p hp => ?_⟩
        by_cases hlt : i' < i
        · exact ah i' hlt p hp
        · have : i' = i := by omega
          subst this
          have := lpL_mem hp
          exact lo1 p hp (by omega)
    · rintro σ H1 ⟨v1, v2, v3, rfl, sm1, ah⟩
      exact qn (fun i hi p hp => ah i (by omega) p hp) H1 sm1
end
end Hl

set_option Elab.async false
set_option linter.all false
set_option maxRecDepth 100000
set_option maxHeartbeats 4000000
namespace Hl
open PySem PySem.Spec PyProof.Rows L2
abbrev sLrc : Stmt := topS 34
/-- each stand but the first stands behind one from which it is come to -/
def Par (T : Tab) (found : List Nat) : Prop := ∀ i x, found[i]? = some x → i = 0 ∨ ∃ (j o a : Nat) (e : Ent), j < i ∧ found[j]? = some o ∧ getE T o a = some e ∧ e.1.toNat = x
structure FIp (T : Tab) (s at' : Nat) (found : List Nat) : Prop extends FInv T s at' found where
  pa : Par T found
  hd : found[0]? = some s
theorem FIp.start {T : Tab} {s : Nat} (h : s < T.length) : FIp T s 0 [s] := ⟨FInv.start h, (fun i x hi => match i, hi with | 0, _ => .inl rfl), rfl⟩
theorem FIp.add {T : Tab} {s at' : Nat} {found : List Nat} (f : FIp T s at' found) {t : Nat} (n : t ∉ found) (l : t < T.length) (r : Rch T s t) {o a : Nat} {e : Ent} (ho : found[at']? = some o) (ge : getE T o a = some e) (et : e.1.toNat = t) : FIp T s at' (found ++ [t]) := ⟨f.toFInv.add n l r, (fun i x hi => by
  by_cases h : i < found.length
  · rw [List.getElem?_append_left h] at hi
    rcases f.pa i x hi with h0 | ⟨j, o', a', e', h1, h2, h3, h4⟩
    · exact .inl h0
    · exact .inr ⟨j, o', a', e', h1, by rw [List.getElem?_append_left (by omega)]; exact h2, h3, h4⟩
  · rw [List.getElem?_append_right (by omega)] at hi
    have h1 : i - found.length = 0 := by
      have := (List.getElem?_eq_some_iff.mp hi).1
      simp at this
      omega
    rw [h1] at hi
    cases Option.some.inj hi
    have hl := (List.getElem?_eq_some_iff.mp ho).1
    exact .inr ⟨at', o, a, e, by omega, by rw [List.getElem?_append_left hl]; exact ho, ge, et⟩), by rw [List.getElem?_append_left (by have := (List.getElem?_eq_some_iff.mp f.hd).1; omega)]; exact f.hd⟩
theorem FIp.next {T : Tab} {s at' o : Nat} {found : List Nat} (f : FIp T s at' found) (ho : found[at']? = some o) (h : ∀ a e, getE T o a = some e → e.1.toNat ∈ found) : FIp T s (at' + 1) found := ⟨f.toFInv.next ho h, f.pa, f.hd⟩
theorem FIp.len {T : Tab} {s at' : Nat} {found : List Nat} (f : FIp T s at' found) : found.length ≤ T.length := f.toFInv.len
section
variable {P : Program} {w : World} {K : PySem.W.Frag} {mg : Str → Option Value} {base : Heap}
/-! _law_reached -/
def spLrc : Sp := fun vs H Q _ => ∃ (a : Addr) (T : Tab) (s : Nat), vs = [.ref a, .int s] ∧ TabAt H a T ∧ Nxt T ∧ s < T.length ∧
  ∀ (H' : Hp) (q : Addr) (found : List Nat), Same H H' → H q = none → H' q = some (.lst (natV found)) → (∀ j, j ∈ found ↔ Rch T s j) → found.length ≤ T.length → (∀ x ∈ found, x < T.length) → found[0]? = some s → Par T found → Q (.ref q) H'
abbrev nmLr : List Str := ["_law_rows", "_law_start", "_law_found", "_law_k", "_law_there", "_law_sends"]
theorem scLr : FnScope nmLr ["_law_rows", "_law_start"] (defScope sLrc) := ⟨rfl, rfl, rfl, by decide +kernel, rfl, by decide +kernel, by decide +kernel⟩
theorem ok_lrc {f : Addr} {fd : FuncData} {k : Nat} (F : Fun K "_law_reached" "_law_reached" sLrc f fd) (B : Bi mg) : FnOk P w K mg base CX0 (k + 1) f fd ["_law_rows", "_law_start"] spLrc := by
  refine F.ok scLr (fun vs H Q E h => ?_) (fun cdv A outer s H vs Q E hr h => ?_)
  · obtain ⟨a, T, s, rfl, _⟩ := h
    rfl
  · obtain ⟨a, T, st0, rfl, ⟨vs, hv, pr⟩, nx, sl, q⟩ := h
    refine ⟨_, pss_cons (ps_set (i := 2) scLr.nd rfl (.inl rfl) (pe_lst (pa_cons (pv 1) pa_nil)))
      (pss_cons (ps_for PassesOwn.never rfl (pi_range1 (by rfl) B.rng (pa_cons (pe_callB call_len_seq (by rfl) B.len PySem.boot_len (pa_cons (pv 0) pa_nil)) pa_nil)) (pg_name (i := 3) scLr.nd rfl (.inl rfl))
        (pss_one (ps_if (pt_cmpR op_lt (pv 3) (pe_callB call_len_seq (by rfl) B.len PySem.boot_len (pa_cons (pv 2) pa_nil)) (nomark _))
          (pss_one (ps_for PassesOwn.never rfl (pi_list (pe_ix (r := rIxL K) ix_list (pv 0) (pe_ix (r := rIxL K) ix_list (pv 2) (pv 3) (fun _ _ => rfl)) (fun _ _ => rfl)))
            (pg_tup rfl (pgs_cons (pg_name (i := 4) scLr.nd rfl (.inl rfl)) (pgs_cons (pg_name (i := 5) scLr.nd rfl (.inl rfl)) pgs_nil)))
            (pss_one (ps_if (pt_cmpR op_notIn_seq (pv 4) (pv 2) (by rfl)) (pss_one (ps_expr (pe_bm PySem.F.plainAttrs_list PySem.F.slot_list_append PySem.F.type_list_append mt_append (pv 2) (pa_cons (pv 4) pa_nil)))) pss_nil)))) pss_nil)))
      (pss_one (ps_ret (pv 2)))), ?_⟩
    have lvs := pr.length
    have n60 := nx.n60
    refine ⟨_, rfl, (by show 1 ≤ sizeLine; decide), fun Fd nF => ?_⟩
    have sF := same_upd (o := .lst (natV [st0])) nF
    refine ⟨_, rfl, a, vs, rfl, .inl (SqL.of (sF _ _ hv)), (vs.length : Int), rfl, by omega, by omega, ?_⟩
    refine for_range (lo := 0) (n := vs.length) (fun i σ H' => ∃ (found : List Nat) (at' : Nat) (v3 v4 v5 : Option V), σ = [some (.ref a), some (.int st0), some (.ref Fd), v3, v4, v5] ∧ Same H H' ∧ H' Fd = some (.lst (natV found)) ∧ FIp T st0 at' found ∧ (at' = i ∨ (at' = found.length ∧ at' < i)))
      ⟨[st0], 0, none, none, none, rfl, sF, upd_same, FIp.start sl, .inl rfl⟩ ?_ ?_
    · rintro i σ H2 hi ⟨found, at', v3, v4, v5, rfl, sm2, hF2, fi, hat⟩
      have lf := fi.len
      refine ⟨_, rfl, _, rfl, Fd, natV found, rfl, .inl (SqL.of hF2), _, _, rfl, rfl, _, rfl, ite2 (fun e => ?_) (fun e => ?_)⟩
      · have il : i < found.length := by
          have := of_decide_eq_true e
          rw [natV_len] at this
          omega
        have ea : at' = i := by omega
        subst ea
        have ho : found[at']? = some found[at'] := List.getElem?_eq_getElem il
        have oin : found[at'] ∈ found := List.getElem_mem il
        generalize found[at'] = o at ho oin
        have ol := fi.lt o oin
        have hrow : T[o]? = some T[o] := List.getElem?_eq_getElem ol
        have rowin : T[o] ∈ T := List.getElem_mem ol
        generalize T[o] = row at hrow rowin
        obtain ⟨v, hvo, b, us, rfl, hb, pe⟩ := paired_get2 pr o row hrow
        have lus := pe.length
        have hnf : (natV found)[at']? = some (.int (o : Nat)) := by
          unfold natV
          rw [List.getElem?_map, ho]
          rfl
        have gE : ∀ j, getE T o j = row[j]? := fun j => by
          unfold getE
          rw [hrow]
          rfl
        refine ⟨_, rfl, _, rfl, _, rfl, Fd, natV found, _, _, rfl, rfl, SqL.of hF2, at_of (j := at') (by omega) hnf, a, vs, _, _, rfl, rfl, SqL.of (sm2 _ _ hv), atI_nat (j := o) hvo, b, rfl, ⟨_, SqL.of (sm2 _ _ hb)⟩, ?_⟩
        refine for_list (K := K) (a := b) (xs := us) (fun j σ H' => ∃ (f' : List Nat) (v3 v4 v5 : Option V), σ = [some (.ref a), some (.int st0), some (.ref Fd), v3, v4, v5] ∧ Same H H' ∧ H' Fd = some (.lst (natV f')) ∧ FIp T st0 at' f' ∧ f'[at']? = some o ∧ ∀ i e, i < j → row[i]? = some e → e.1.toNat ∈ f')
          ⟨found, _, _, _, rfl, sm2, hF2, fi, ho, fun i e hi => absurd hi (Nat.not_lt_zero _)⟩ (fun j σ H' _ ⟨_, _, _, _, _, sm', _⟩ => SqL.of (sm' _ _ hb)) ?_ ?_
        · rintro j x σ H3 hx ⟨f', w3, w4, w5, rfl, sm3, hF3, fi3, ho3, cl3⟩
          obtain ⟨e, hej, c, t, rfl, hc, ht⟩ := paired_get pe j _ hx
          obtain ⟨tn, htn, tlt⟩ := nx.nx row rowin e (List.mem_of_getElem? hej)
          have ett : e.1.toNat = tn := by omega
          have cl' : ∀ f'' : List Nat, (∀ x ∈ f', x ∈ f'') → tn ∈ f'' → ∀ i e', i < j + 1 → row[i]? = some e' → e'.1.toNat ∈ f'' := fun f'' sub hin i e' hi he' => by
            by_cases hij : i < j
            · exact sub _ (cl3 i e' hij he')
            · have : i = j := by omega
              subst this
              have : e' = e := Option.some.inj (he'.symm.trans hej)
              subst this
              rw [ett]
              exact hin
          refine ⟨c, _, rfl, SqT.of (sm3 _ _ hc), rfl, _, _, rfl, _, _, rfl, rfl, ?_⟩
          rw [htn]
          refine ⟨_, rfl, _, rfl, Fd, natV f', rfl, .inl (SqL.of hF3), rfl, natV_flat _, _, rfl, ?_⟩
          rw [if_pos rfl, inV_nat]
          by_cases hin : tn ∈ f'
          · rw [decide_eq_true hin]
            exact iF rfl ⟨f', _, _, _, rfl, sm3, hF3, fi3, ho3, cl' f' (fun _ h => h) hin⟩
          · rw [decide_eq_false hin]
            refine iT rfl ?_
            have lf3 := fi3.len
            have rcn : Rch T st0 tn := by
              rw [← ett]
              exact .step (fi3.rc o (List.mem_of_getElem? ho3)) ((gE j).trans hej)
            refine ⟨_, rfl, .inl ⟨rfl, _, SqL.of hF3⟩, _, rfl, Fd, _, _, rfl, rfl, hF3, ?_, ?_⟩
            · rw [natV_len]
              exact small1000 (by omega)
            refine ⟨f' ++ [tn], _, _, _, rfl, sm3.put nF, ?_, fi3.add hin tlt rcn ho3 ((gE j).trans hej) ett, ?_, cl' _ (fun _ h => List.mem_append_left _ h) (List.mem_append_right _ (List.mem_singleton.mpr rfl))⟩
            · rw [upd_same]
              unfold natV
              rw [List.map_append]
              rfl
            · rw [List.getElem?_append_left (List.getElem?_eq_some_iff.mp ho3).1]
              exact ho3
        · rintro σ H3 ⟨f', w3, w4, w5, rfl, sm3, hF3, fi3, ho3, cl3⟩
          refine ⟨f', at' + 1, w3, w4, w5, rfl, sm3, hF3, fi3.next ho3 fun i e he => ?_, .inl rfl⟩
          rw [gE] at he
          exact cl3 i e (by rw [lus]; exact (List.getElem?_eq_some_iff.mp he).1) he
      · have il : found.length ≤ i := by
          have : ¬ ((0 + (i : Nat) : Int) < ((natV found).length : Nat)) := fun h => e (decide_eq_true h)
          rw [natV_len] at this
          omega
        have := fi.le
        exact ⟨found, found.length, _, _, _, rfl, sm2, hF2, ⟨⟨fi.nd, fi.lt, fi.rc, fi.fs, fun i' o a' e' hi' => fi.cl i' o a' e' (by omega), Nat.le_refl _⟩, fi.pa, fi.hd⟩, .inr ⟨rfl, by omega⟩⟩
    · rintro σ H2 ⟨found, at', v3, v4, v5, rfl, sm2, hF2, fi, hat⟩
      have lf := fi.len
      exact ⟨_, rfl, q H2 Fd found sm2 nF hF2 (fi.toFInv.fin (by omega)) lf fi.lt fi.hd fi.pa⟩
end
end Hl

set_option Elab.async false
set_option linter.all false
set_option maxRecDepth 100000
set_option maxHeartbeats 4000000
namespace Hl
open PySem PySem.Spec PyProof.Rows L2
/-! where every letter has come as often as there are stands -/
section
variable {T : Tab} {k n : Nat}
def allp (k m : Nat) : List Nat := (List.replicate m (List.range k)).flatten
theorem ones_gd {ps : List Nat} (h : ∀ a ∈ ps, a < k) : Gd k (ones ps) := fun p hp => by
  obtain ⟨x, hx, rfl⟩ := List.mem_map.mp hp
  exact h x hx
theorem ones_app (ps qs : List Nat) : ones (ps ++ qs) = ones ps ++ ones qs := List.map_append
theorem allp_lt {m a : Nat} (h : a ∈ allp k m) : a < k := by
  obtain ⟨l, hl, ha⟩ := List.mem_flatten.mp h
  rw [List.eq_of_mem_replicate hl] at ha
  exact List.mem_range.mp ha
theorem all_one (l : Lawful T k n) {a x : Nat} (ha : a < k) (hx : x < T.length) : ∃ y, y < T.length ∧ wE T (ones (List.range k)) x = endN T a 1 y := by
  have mem : (a, 1) ∈ ones (List.range k) := List.mem_map.mpr ⟨a, List.mem_range.mpr ha, rfl⟩
  have gd : Gd k (ones (List.range k)) := ones_gd fun b hb => List.mem_range.mp hb
  have gr : Gd k ((ones (List.range k)).erase (a, 1)) := fun p hp => gd p (List.mem_of_mem_erase hp)
  have e := (w_perm l (List.perm_cons_erase mem) gd hx).1
  refine ⟨wE T ((ones (List.range k)).erase (a, 1)) x, wE_lt l _ hx gr, ?_⟩
  rw [e]
  exact (w_comm l (Gd.one (m := 1) ha) gr hx).1
theorem all_many (l : Lawful T k n) {a : Nat} (ha : a < k) : ∀ (m : Nat) {x : Nat}, x < T.length → ∃ y, y < T.length ∧ wE T (ones (allp k m)) x = endN T a m y
  | 0, x, hx => ⟨x, hx, rfl⟩
  | m + 1, x, hx => by
    obtain ⟨y1, h1, e1⟩ := all_one l ha hx
    obtain ⟨y, h2, e2⟩ := all_many l ha m h1
    refine ⟨y, h2, ?_⟩
    have gm : Gd k (ones (allp k m)) := ones_gd fun b hb => allp_lt hb
    show wE T (ones (List.range k ++ allp k m)) x = _
    rw [ones_app, wE_app, e1]
    have c := (w_comm l (Gd.one (m := 1) ha) gm h1).1
    show wE T (ones (allp k m)) (wE T [(a, 1)] y1) = _
    rw [c, e2]
    show endN T a 1 (endN T a m y) = _
    rw [← endN_add]
/-- the stand that _law_again_from comes to -/
def bg (T : Tab) (k s : Nat) : Nat := wE T (ones (allp k T.length)) s
theorem bg_lt (l : Lawful T k n) {s : Nat} (hs : s < T.length) : bg T k s < T.length := wE_lt l _ hs (ones_gd fun _ h => allp_lt h)
theorem bg_per (l : Lawful T k n) {a s : Nat} (ha : a < k) (hs : s < T.length) : ∃ t, 0 < t ∧ t ≤ T.length ∧ endN T a t (bg T k s) = bg T k s := by
  obtain ⟨y, hy, e⟩ := all_many l ha T.length hs
  obtain ⟨t, t0, tl, h⟩ := ring_of l hy ha
  refine ⟨t, t0, tl, ?_⟩
  unfold bg
  rw [e, ← endN_add, h]
/-- the round there, and what it tells -/
theorem path_nd {a b t : Nat} (h : endN T a t b = b) (no : ∀ i, 0 < i → i < t → endN T a i b ≠ b) : ∀ m, m ≤ t → (pathN T a b m).Nodup
  | 0, _ => List.nodup_nil
  | m + 1, hm => by
    refine nd_snoc (path_nd h no m (by omega)) fun i hi e => ?_
    have e2 : endN T a (i + (t - m)) b = b := by
      rw [endN_add, e, ← endN_add, show m + (t - m) = t by omega, h]
    exact no (i + (t - m)) (by omega) (by omega) e2
theorem per_rnd {a b t : Nat} (t0 : 0 < t) (h : endN T a t b = b) : ∃ L, L ≤ t ∧ Rnd T a b L := by
  induction t using Nat.strongRecOn with
  | ind t ih =>
    by_cases f : ∃ i, 0 < i ∧ i < t ∧ endN T a i b = b
    · obtain ⟨i, i0, il, hi⟩ := f
      obtain ⟨L, hL, r⟩ := ih i il i0 hi
      exact ⟨L, by omega, r⟩
    · exact ⟨t, Nat.le_refl _, t0, h, path_nd h (fun i i0 il e => f ⟨i, i0, il, e⟩) t (Nat.le_refl _)⟩
theorem round_rate (l : Lawful T k n) {a b L j : Nat} (ha : a < k) (hb : b < T.length) (hj : j < n) (h : endN T a L b = b) : (N0 T k : Int) * sntN T a L b j = rt0 T k a j * (L : Int) := by
  have e := phi_walk l (Gd.one (m := L) ha) hb hj
  have w : wE T [(a, L)] b = b := h
  rw [w, Int.sub_self] at e
  unfold fQ at e
  have s : wS T [(a, L)] b j = sntN T a L b j := by
    show sntN T a L b j + 0 = _
    rw [Int.add_zero]
  have r : rq T k (r0 T) j [(a, L)] = rt0 T k a j * (L : Int) := by
    show rtN T k (r0 T) a j * (L : Int) + 0 = _
    rw [Int.add_zero]
    rfl
  rw [s, r] at e
  show (NN T k (r0 T) : Int) * _ = _
  omega
theorem round_low (l : Lawful T k n) {a b L j : Nat} (ha : a < k) (hb : b < T.length) (hj : j < n) (L0 : 0 < L) (h : endN T a L b = b) : lowF (sntN T a L b j) (L : Nat) = lowF (rt0 T k a j) (N0 T k : Nat) := by
  have p := N0_pos l
  exact low_cross (by omega) (by omega) (by rw [Int.mul_comm, round_rate l ha hb hj h])
end
end Hl

set_option Elab.async false
set_option linter.all false
set_option maxRecDepth 100000
set_option maxHeartbeats 4000000
namespace Hl
open PySem PySem.Spec PyProof.Rows L2
abbrev sLaf : Stmt := topS 36
theorem rgV_nat (k : Nat) : rgV 0 (k : Int) = natV (List.range k) := by
  unfold rgV natV
  rw [Int.sub_zero, Int.toNat_natCast]
  refine List.map_congr_left fun i _ => ?_
  rw [Int.zero_add]
theorem rep_all (k : Nat) : ∀ m, (List.replicate m (natV (List.range k))).flatten = natV (allp k m)
  | 0 => rfl
  | m + 1 => by
    show natV (List.range k) ++ (List.replicate m (natV (List.range k))).flatten = natV (List.range k ++ allp k m)
    rw [rep_all k m]
    unfold natV
    rw [List.map_append]
section
variable {P : Program} {w : World} {K : PySem.W.Frag} {mg : Str → Option Value} {base : Heap}
/-! _law_again_from -/
def spLaf : Sp := fun vs H Q _ => ∃ (m i o q : Addr) (ins outs : List Str) (T : Tab) (s : Nat), vs = [.ref m, .int s] ∧ Dev H m i o q ins outs T ∧ Lawful T ins.length outs.length ∧ ins.length ≤ 3 ∧ outs.length ≤ 3 ∧ s < T.length ∧ ∀ H', Same H H' → Q (.int (bg T ins.length s : Nat)) H'
abbrev nmLaf : List Str := ["_law_m", "_law_start", "_law_rows", "_law_places"]
theorem scLaf : FnScope nmLaf ["_law_m", "_law_start"] (defScope sLaf) := ⟨rfl, rfl, rfl, by decide +kernel, rfl, by decide +kernel, by decide +kernel⟩
theorem ok_laf {f fW : Addr} {fd fdW : FuncData} {k : Nat} (F : Fun K "_law_again_from" "_law_again_from" sLaf f fd) (B : Bi mg) (Wk : Has P w K mg base k "_law_walked" ["_law_m", "_law_start", "_law_places"] spWk fW fdW) : FnOk P w K mg base CX0 (k + 1) f fd ["_law_m", "_law_start"] spLaf := by
  refine F.ok scLaf (fun vs H Q E h => ?_) (fun cdv A outer s H vs Q E hr h => ?_)
  · obtain ⟨m, i, o, q, ins, outs, T, s, rfl, _⟩ := h
    rfl
  · obtain ⟨m, i, o, q, ins, outs, T, s0, rfl, dv, law, i3, o3, sl, Qk⟩ := h
    have n60 := law.n60
    have li : (ins.map V.str).length = ins.length := List.length_map _
    obtain ⟨vt, hvt, pvt⟩ := id dv.ht
    have lvt := pvt.length
    refine ⟨_, (pss_cons (ps_set (i := 2) scLaf.nd rfl (.inl rfl) (pe_dget (hu_of hr) (pv 0) pe_str (fun _ _ => rfl)))
      (pss_cons (ps_set (i := 3) scLaf.nd rfl (.inl rfl) (pe_op op_rep (pe_listRg rfl (by rfl) B.lst (prg_1 (by rfl) B.rng (pe_callB call_len_seq (by rfl) B.len PySem.boot_len (pa_cons (pe_dget (hu_of hr) (pv 0) pe_str (fun _ _ => rfl)) pa_nil)))) (pe_callB call_len_seq (by rfl) B.len PySem.boot_len (pa_cons (pv 2) pa_nil))))
      (pss_one (ps_ret (pe_ix (r := rIxT K) ix_tup (pe_call Wk.G hr (by rfl) Wk.g Wk.kp Wk.b .nil pass0 (pa_cons (pv 0) (pa_cons (pv 1) (pa_cons (pv 3) pa_nil)))) pe_int (fun _ _ => rfl)))))), ?_⟩
    refine ⟨_, rfl, m, _, rfl, dv.gr, ?_⟩
    refine ⟨_, rfl, m, _, rfl, dv.gi, i, _, rfl, .inl (SqL.of dv.hi), ((ins.map V.str).length : Int), rfl, RgOk.of_le (by omega) (by omega) (by omega) (by omega), fun z nz => ?_⟩
    rw [li, rgV_nat]
    have s1 := same_upd (o := .lst (natV (List.range ins.length))) nz
    refine ⟨_, rfl, q, _, rfl, .inl (SqL.of (s1 _ _ hvt)), z, (vt.length : Int), _, rfl, rfl, upd_same, by omega, by omega, ?_, fun D nD => ?_⟩
    · rw [natV_len, List.length_range, Int.toNat_natCast, lvt, sizeLine_eq]
      have : ins.length * T.length ≤ 3 * 60 := Nat.mul_le_mul i3 n60
      omega
    rw [Int.toNat_natCast, lvt, rep_all]
    have s2 := s1.trans (same_upd (o := .lst (natV (allp ins.length T.length))) nD)
    refine ⟨_, rfl, _, rfl, _, rfl, m, i, o, q, D, ins, outs, T, allp ins.length T.length, s0, rfl, dv.same s2, law, o3, upd_same, fun a ha => allp_lt ha, sl, fun H' r sm ⟨q', h1, h2⟩ => ?_⟩
    exact ⟨r, _, 0, _, rfl, rfl, SqT.of h1, atI_nat (j := 0) rfl, Qk H' (s2.trans sm)⟩
end
end Hl

set_option Elab.async false
set_option linter.all false
set_option maxRecDepth 100000
set_option maxHeartbeats 4000000
namespace Hl
open PySem PySem.Spec PyProof.Rows L2
abbrev sLrd : Stmt := topS 37
theorem bg_rnd {T : Tab} {k n a s : Nat} (l : Lawful T k n) (ha : a < k) (hs : s < T.length) : Rnd T a (bg T k s) (lapL T (bg T k s) a) ∧ lapL T (bg T k s) a ≤ 60 := by
  obtain ⟨t, t0, tl, e⟩ := bg_per l ha hs
  obtain ⟨L, hL, r⟩ := per_rnd t0 e
  have := l.n60
  rw [lapL_of r]
  exact ⟨r, by omega⟩
theorem rnd_ne {T : Tab} {a b L m : Nat} (r : Rnd T a b L) (h0 : 0 < m) (hm : m < L) : endN T a m b ≠ b := fun e => by
  have p1 : (pathN T a b L)[m]? = some b := by rw [pathN_get hm, e]
  have p2 : (pathN T a b L)[0]? = some b := pathN_get (i := 0) r.pos
  have := nd_ix r.nd p1 p2
  omega
section
variable {P : Program} {w : World} {K : PySem.W.Frag} {mg : Str → Option Value} {base : Heap}
/-! _law_round -/
def spLrd : Sp := fun vs H Q _ => ∃ (m i o q : Addr) (ins outs : List Str) (T : Tab) (pl : Nat), vs = [.ref m, .int pl] ∧ Dev H m i o q ins outs T ∧ Lawful T ins.length outs.length ∧ ins.length ≤ 3 ∧ outs.length ≤ 3 ∧ pl < ins.length ∧
  ∀ (H' : Hp) (r : Addr), Same H H' → Told H' r (lapL T (bg T ins.length 0) pl) (vec outs.length (sntN T pl (lapL T (bg T ins.length 0) pl) (bg T ins.length 0))) → Q (.ref r) H'
abbrev nmLrd : List Str := ["_law_m", "_law_place", "_law_begin", "_law_stand", "_law_sent", "_law_many", "_law_sends", "_law_a", "_law_b"]
theorem scLrd : FnScope nmLrd ["_law_m", "_law_place"] (defScope sLrd) := ⟨rfl, rfl, rfl, by decide +kernel, rfl, by decide +kernel, by decide +kernel⟩
theorem ok_lrd {f fW fA : Addr} {fd fdW fdA : FuncData} {k : Nat} (F : Fun K "_law_round" "_law_round" sLrd f fd) (B : Bi mg) (J : Bj mg) (Wk : Has P w K mg base k "_law_walked" ["_law_m", "_law_start", "_law_places"] spWk fW fdW)
    (Af : Has P w K mg base k "_law_again_from" ["_law_m", "_law_start"] spLaf fA fdA) : FnOk P w K mg base CX0 (k + 1) f fd ["_law_m", "_law_place"] spLrd := by
  refine F.ok scLrd (fun vs H Q E h => ?_) (fun cdv A outer s H vs Q E hr h => ?_)
  · obtain ⟨m, i, o, q, ins, outs, T, pl, rfl, _⟩ := h
    rfl
  · obtain ⟨m, i, o, q, ins, outs, T, pl, rfl, dv, law, i3, o3, plk, Qk⟩ := h
    have n1 := law.n1
    obtain ⟨b, hb⟩ : ∃ b, b = bg T ins.length 0 := ⟨_, rfl⟩
    obtain ⟨rn, L60⟩ := bg_rnd (s := 0) law plk (by omega)
    have bl : bg T ins.length 0 < T.length := bg_lt law (by omega)
    rw [← hb] at rn L60 bl Qk
    obtain ⟨L, hL⟩ : ∃ L, L = lapL T b pl := ⟨_, rfl⟩
    rw [← hL] at rn L60 Qk
    have L0 := rn.pos
    refine ⟨_, (pss_cons (ps_set (i := 2) scLrd.nd rfl (.inl rfl) (pe_call Af.G hr (by rfl) Af.g Af.kp Af.b .nil pass0 (pa_cons (pv 0) (pa_cons pe_int pa_nil))))
        (pss_cons (ps_asg (pe_call Wk.G hr (by rfl) Wk.g Wk.kp Wk.b .nil pass0 (pa_cons (pv 0) (pa_cons (pv 2) (pa_cons (pe_lst (pa_cons (pv 1) pa_nil)) pa_nil)))) (pg_tup rfl (pgs_cons (pg_name (i := 3) scLrd.nd rfl (.inl rfl)) (pgs_cons (pg_name (i := 4) scLrd.nd rfl (.inl rfl)) pgs_nil))))
        (pss_cons (ps_set (i := 5) scLrd.nd rfl (.inl rfl) pe_int)
        (pss_cons (ps_while PassesOwn.never (PW.pt (pw_and (pt_cmpR op_ne (pv 3) (pv 2) (nomark _)) (pw_and1 (pt_cmpR op_lt (pv 5) pe_int (nomark _)))))
        (pss_cons (ps_asg (pe_ix (r := rIx K) ix_seq (pe_ix (r := rIx K) ix_seq (pe_dget (hu_of hr) (pv 0) pe_str (fun _ _ => rfl)) (pv 3) (fun _ _ => rfl)) (pv 1) (fun _ _ => rfl)) (pg_tup rfl (pgs_cons (pg_name (i := 3) scLrd.nd rfl (.inl rfl)) (pgs_cons (pg_name (i := 6) scLrd.nd rfl (.inl rfl)) pgs_nil))))
        (pss_cons (ps_setLc (i := 4) (own := [("_law_a", 7), ("_law_b", 8)]) (g := gTup K 2 (gCons (gName 7) (gCons (gName 8) gNil))) (tt := tYes) rfl scLrd.nd rfl rfl (sw_true rfl rfl rfl (by decide +kernel)) (pi_zipm (by rfl) J.zip (pa_cons (pv 4) (pa_cons (pv 6) pa_nil))) (blkOk_by (own := [("_law_a", 7), ("_law_b", 8)]) (N := nmLrd) (sc := defScope sLrd) (by decide +kernel)) (fun _ _ _ _ _ => pg_tup rfl (pgs_cons (pg_name (i := 7) scLrd.nd rfl (Or.inl rfl)) (pgs_cons (pg_name (i := 8) scLrd.nd rfl (Or.inl rfl)) pgs_nil))) (fun _ _ _ _ _ => pts_nil) (fun _ _ _ _ _ => pe_op op_add (pv 7) (pv 8)))
        (pss_one (ps_set (i := 5) scLrd.nd rfl (.inl rfl) (pe_op op_add (pv 5) pe_int))))))
        (pss_one (ps_ret (pe_tup (pa_cons (pv 5) (pa_cons (pv 4) pa_nil))))))))), ?_⟩
    refine ⟨_, rfl, m, i, o, q, ins, outs, T, 0, rfl, dv, law, i3, o3, by omega, fun H1 sm1 => ?_⟩
    rw [← hb]
    refine ⟨_, rfl, _, rfl, _, rfl, (by show 1 ≤ sizeLine; decide), fun z nz => ?_⟩
    have s2 := sm1.trans (same_upd (o := .lst (natV [pl])) nz)
    refine ⟨m, i, o, q, z, ins, outs, T, [pl], b, rfl, dv.same s2, law, o3, upd_same, fun a ha => by rw [List.mem_singleton.mp ha]; exact plk, bl, fun H3 r sm3 ⟨q3, h3, hq3⟩ => ?_⟩
    refine ⟨r, _, rfl, SqT.of h3, rfl, _, _, rfl, _, _, rfl, rfl, ?_⟩
    have s3 := s2.trans sm3
    have e1 : wS T (ones [pl]) b = sntN T pl 1 b := by
      funext j
      show sntN T pl 1 b j + 0 = _
      rw [Int.add_zero]
    rw [e1] at hq3
    refine ⟨fun mm σ H' => ∃ (S : Addr) (mn : Nat) (w6 : Option V), σ = [some (.ref m), some (.int (pl : Nat)), some (.int (b : Nat)), some (.int (endN T pl mn b : Nat)), some (.ref S), some (.int (mn : Nat)), w6, none, none] ∧ 1 ≤ mn ∧ mn ≤ L ∧ mm = L - mn ∧ Same H H' ∧ H' S = some (.lst ((vec outs.length (sntN T pl mn b)).map V.int)),
      ⟨_, q3, 1, none, rfl, Nat.le_refl _, by omega, rfl, s3, hq3⟩, ?_⟩
    rintro mm σ H4 ⟨S, mn, w6, rfl, m1, mL, rfl, sm4, hS⟩
    have dv4 := dv.same sm4
    by_cases fin : mn = L
    · subst fin
      refine ⟨_, rfl, _, rfl, rfl, _, rfl, iF (by rw [rn.eq]; simp) ?_⟩
      refine iF rfl ?_
      refine ⟨_, rfl, _, rfl, (by show 2 ≤ sizeLine; decide), fun r' nr => ?_⟩
      have sr := same_upd (o := .tup [.int (mn : Nat), .ref S]) nr
      exact Qk _ r' (sm4.trans sr) ⟨S, upd_same, sr _ _ hS⟩
    · have ml : mn < L := by omega
      have ne : ¬ (endN T pl mn b : Int) = (b : Int) := fun e => rnd_ne rn m1 ml (by omega)
      refine ⟨_, rfl, _, rfl, rfl, _, rfl, iT (by simp [ne]) ?_⟩
      refine ⟨_, rfl, _, _, rfl, rfl, _, rfl, iT (by simp; omega) ?_⟩
      have el : endN T pl mn b < T.length := endN_lt law bl plk mn
      obtain ⟨e, ge, e1', nl, ev⟩ := law_at law el plk
      obtain ⟨row, hr1, hr2⟩ := getE_row ge
      obtain ⟨v1, rv1, x1⟩ := rt_row (K := K) dv4.ht.any hr1
      obtain ⟨c1, t1, hc1, ht1, y1⟩ := rr_ent (K := K) rv1 hr2
      rw [ev] at ht1
      rw [e1'] at hc1
      refine ⟨fun σ' H' => ∃ (S : Addr) (w6 : Option V), σ' = [some (.ref m), some (.int (pl : Nat)), some (.int (b : Nat)), some (.int (endN T pl (mn + 1) b : Nat)), some (.ref S), some (.int ((mn + 1 : Nat) : Nat)), w6, none, none] ∧ Same H H' ∧ H' S = some (.lst ((vec outs.length (sntN T pl (mn + 1) b)).map V.int)),
        fun σ' H' ⟨S', w', h1, h2, h3⟩ => ⟨L - (mn + 1), by omega, S', mn + 1, w', h1, by omega, by omega, rfl, h2, h3⟩, ?_⟩
      refine ⟨_, rfl, m, _, rfl, dv4.gr, _, rfl, x1 _ ⟨_, rfl, y1 _ ⟨c1, _, rfl, SqT.of hc1, rfl, _, _, rfl, _, _, rfl, rfl, ?_⟩⟩⟩
      refine ⟨_, rfl, _, rfl, S, t1, _, _, rfl, SqL.of hS, SqT.of ht1, fun D nD => ?_⟩
      refine lc_zipm (K := K) (a := S) (b := t1) (xs := (vec outs.length (sntN T pl mn b)).map V.int) (ys := (vec outs.length (sdN T pl (endN T pl mn b))).map V.int) (by simp only [List.length_map, vec_len])
        (fun j H' => Same H4 H' ∧ H' D = some (.lst (((vec outs.length (sntN T pl (mn + 1) b)).take j).map V.int))) ⟨same_upd nD, upd_same⟩ (fun j H' ⟨sm, _⟩ => ⟨SqL.of (sm _ _ hS), SqT.of (sm _ _ ht1)⟩) ?_ ?_
      · rintro j x y T' H5 hx hy ⟨sm5, hD⟩ nT
        obtain ⟨x', hx', rfl⟩ := map_int_get hx
        obtain ⟨y', hy', rfl⟩ := map_int_get hy
        have jl := (List.getElem?_eq_some_iff.mp hx').1
        rw [vec_len] at jl
        rw [vec_get jl] at hx' hy'
        cases Option.some.inj hx'
        cases Option.some.inj hy'
        have sT := same_upd (o := .tup [.int (sntN T pl mn b j), .int (sdN T pl (endN T pl mn b) j)]) nT
        refine ⟨T', _, rfl, SqT.of upd_same, rfl, _, _, rfl, _, _, rfl, rfl, ?_⟩
        refine ⟨rfl, ?_⟩
        refine ⟨_, rfl, _, rfl, _, _, rfl, rfl, _, sT _ _ hD, ?_, (sm5.trans sT).put nD, ?_⟩
        · rw [List.length_map, List.length_take, vec_len]
          exact small1000 (by omega)
        · rw [upd_same, vec_take jl, List.map_append]
          rfl
      · rintro H5 ⟨sm5, hD⟩
        rw [List.length_map, vec_len, List.take_of_length_le (by rw [vec_len]; exact Nat.le_refl _)] at hD
        refine ⟨_, rfl, _, _, rfl, rfl, ?_⟩
        exact ⟨D, _, rfl, sm4.trans sm5, hD⟩
end
end Hl

set_option Elab.async false
set_option linter.all false
set_option maxRecDepth 100000
set_option maxHeartbeats 4000000
namespace Hl
open PySem PySem.Spec PyProof.Rows L2
abbrev sLrt : Stmt := topS 38
section
variable {P : Program} {w : World} {K : PySem.W.Frag} {mg : Str → Option Value} {base : Heap}
/-! _law_rates -/
def spLrt : Sp := fun vs H Q _ => ∃ (m i o q : Addr) (ins outs : List Str) (T : Tab), vs = [.ref m] ∧ Dev H m i o q ins outs T ∧ Lawful T ins.length outs.length ∧ ins.length ≤ 3 ∧ outs.length ≤ 3 ∧ ∀ (H' : Hp) (q : Addr), Same H H' → H q = none → RatesAt H' q T ins.length outs.length → Q (.ref q) H'
abbrev nmLrt : List Str := ["_law_m", "_law_found", "_law_place", "_law_many", "_law_sent", "_law_one"]
theorem scLrt : FnScope nmLrt ["_law_m"] (defScope sLrt) := ⟨rfl, rfl, rfl, by decide +kernel, rfl, by decide +kernel, by decide +kernel⟩
theorem ok_lrt {f fR fL : Addr} {fd fdR fdL : FuncData} {k : Nat} (F : Fun K "_law_rates" "_law_rates" sLrt f fd) (B : Bi mg) (Lr : Has P w K mg base k "_law_round" ["_law_m", "_law_place"] spLrd fR fdR) (Lw : Has P w K mg base k "_law_low" ["_law_over", "_law_under"] spLow fL fdL) :
    FnOk P w K mg base CX0 (k + 1) f fd ["_law_m"] spLrt := by
  refine F.ok scLrt (fun vs H Q E h => ?_) (fun cdv A outer s H vs Q E hr h => ?_)
  · obtain ⟨m, i, o, q, ins, outs, T, rfl, _⟩ := h
    rfl
  · obtain ⟨m, i, o, q, ins, outs, T, rfl, dv, law, i3, o3, Qk⟩ := h
    have n1 := law.n1
    have li : (ins.map V.str).length = ins.length := List.length_map _
    refine ⟨_, (pss_cons (ps_set (i := 1) scLrt.nd rfl (by first | exact .inl rfl | exact .inr rfl) (pe_lst pa_nil))
        (pss_cons (ps_for PassesOwn.never rfl (pi_range1 (by rfl) B.rng (pa_cons (pe_callB call_len_seq (by rfl) B.len PySem.boot_len (pa_cons (pe_dget (hu_of hr) (pv 0) pe_str (fun _ _ => rfl)) pa_nil)) pa_nil)) (pg_name (i := 2) scLrt.nd rfl (by first | exact .inl rfl | exact .inr rfl))
          (pss_cons (ps_asg (pe_call Lr.G hr (by rfl) Lr.g Lr.kp Lr.b .nil pass0 (pa_cons (pv 0) (pa_cons (pv 2) pa_nil))) (pg_tup rfl (pgs_cons (pg_name (i := 3) scLrt.nd rfl (by first | exact .inl rfl | exact .inr rfl)) (pgs_cons (pg_name (i := 4) scLrt.nd rfl (by first | exact .inl rfl | exact .inr rfl)) pgs_nil))))
        (pss_one (ps_expr (pe_bm PySem.F.plainAttrs_list PySem.F.slot_list_append PySem.F.type_list_append mt_append (pv 1) (pa_cons (pe_lc (own := [("_law_one", 5)]) (g := gName 5) (tt := tYes) rfl scLrt.nd (pi_list (pv 4)) (blkOk_by (own := [("_law_one", 5)]) (N := nmLrt) (sc := defScope sLrt) (by decide +kernel)) (fun _ _ _ _ _ => pg_name (i := 5) scLrt.nd rfl (Or.inl rfl)) (fun _ _ _ _ _ => pts_nil) (fun _ _ _ _ _ => (pe_call Lw.G hr (by rfl) Lw.g Lw.kp Lw.b .nil pass0 (pa_cons (pv 5) (pa_cons (pv 3) pa_nil))))) pa_nil))))))
        (pss_one (ps_ret (pv 1))))), ?_⟩
    refine ⟨(by show 0 ≤ sizeLine; decide), fun D nD => ?_⟩
    have s1 := same_upd (o := .lst []) nD
    have dv1 := dv.same s1
    refine ⟨_, rfl, m, _, rfl, dv1.gi, i, _, rfl, .inl (SqL.of dv1.hi), ((ins.map V.str).length : Int), rfl, by omega, by omega, ?_⟩
    refine for_range (lo := 0) (n := (ins.map V.str).length) (fun pl σ H' => ∃ w2 w3 w4 : Option V, σ = [some (.ref m), some (.ref D), w2, w3, w4, none] ∧ ∃ vs : List V, Same H H' ∧ H' D = some (.lst vs) ∧ Paired (fun v a => PtsAt (st [D] H') (N0 T ins.length) v (ratesL T ins.length outs.length a)) vs (List.range pl))
      ⟨none, none, none, rfl, [], s1, upd_same, .nil⟩ ?_ ?_
    · rintro pl σ H2 hpl ⟨w2, w3, w4, rfl, vs, sm2, hD, pp⟩
      have plk : pl < ins.length := by omega
      have lvs := pp.length
      rw [List.length_range] at lvs
      rw [show (0 + (pl : Int)) = ((pl : Nat) : Int) by omega]
      have dv2 := dv.same sm2
      obtain ⟨rn, L60⟩ := bg_rnd (s := 0) law plk (by omega)
      have bl : bg T ins.length 0 < T.length := bg_lt law (by omega)
      refine ⟨_, rfl, _, rfl, m, i, o, q, ins, outs, T, pl, rfl, dv2, law, i3, o3, plk, fun H3 r sm3 ⟨q3, h3, hq3⟩ => ?_⟩
      obtain ⟨b, hb⟩ : ∃ b, b = bg T ins.length 0 := ⟨_, rfl⟩
      rw [← hb] at rn L60 bl h3 hq3
      obtain ⟨L, hL⟩ : ∃ L, L = lapL T b pl := ⟨_, rfl⟩
      rw [← hL] at rn L60 h3 hq3
      have L0 := rn.pos
      refine ⟨r, _, rfl, SqT.of h3, rfl, _, _, rfl, _, _, rfl, rfl, ?_⟩
      have hD3 := sm3 _ _ hD
      refine ⟨_, rfl, .inl ⟨rfl, _, SqL.of hD3⟩, _, rfl, q3, rfl, ⟨_, SqL.of hq3⟩, fun D2 nD2 => ?_⟩
      refine lc_list (K := K) (a := q3) (xs := (vec outs.length (sntN T pl L b)).map V.int) (fun j H' => ∃ us : List V, Same H3 H' ∧ H' D2 = some (.lst us) ∧ Paired (PtAt (st [D2] H') (N0 T ins.length)) us ((ratesL T ins.length outs.length pl).take j)) ⟨[], same_upd nD2, upd_same, .nil⟩ (fun j H' _ ⟨_, sm, _⟩ => SqL.of (sm _ _ hq3)) ?_ ?_
      · rintro j x H4 hx ⟨us, sm4, hD2, pu⟩
        obtain ⟨x', hx', rfl⟩ := map_int_get hx
        have jl := (List.getElem?_eq_some_iff.mp hx').1
        rw [vec_len] at jl
        rw [vec_get jl] at hx'
        cases Option.some.inj hx'
        have lus := pu.length
        rw [List.length_take] at lus
        refine ⟨rfl, ?_⟩
        refine ⟨_, rfl, _, rfl, _, _, rfl, by omega, ?_, fun c nc => ?_⟩
        · exact Nat.lt_of_lt_of_le (show ((L : Nat) : Int).natAbs < 2 ^ 6 by omega) (Nat.pow_le_pow_right (by decide) (by decide))
        have sc := same_upd (o := .tup (lowF (sntN T pl L b j) (L : Nat))) nc
        have ncD : c ≠ D2 := ne_of_fresh hD2 nc
        refine ⟨_, sc _ _ hD2, small1000 (by omega), us ++ [.ref c], (sm4.trans sc).put nD2, upd_same, ?_⟩
        rw [st_upd (by simp)]
        have tk : (ratesL T ins.length outs.length pl).take (j + 1) = (ratesL T ins.length outs.length pl).take j ++ [rt0 T ins.length pl j] := vec_take jl
        rw [tk]
        refine paired_snoc (paired_mono (fun _ _ ⟨a, e, h⟩ => ⟨a, e, st_mono sc _ _ h⟩) pu) ⟨c, rfl, ?_⟩
        rw [st_get (by simp [ncD]), upd_same, round_low law plk bl jl L0 rn.eq]
      · rintro H4 ⟨us, sm4, hD2, pu⟩
        rw [List.length_map, vec_len, List.take_of_length_le (by unfold ratesL; rw [vec_len]; exact Nat.le_refl _)] at pu
        have hD4 := sm4 _ _ hD3
        have nbD : D2 ≠ D := ne_of_fresh hD3 nD2
        refine ⟨D, _, _, rfl, rfl, hD4, small1000 (by omega), ?_⟩
        refine ⟨_, _, _, rfl, vs ++ [.ref D2], ((sm2.trans sm3).trans sm4).put nD, upd_same, ?_⟩
        rw [st_upd (by simp), List.range_succ]
        have hv : PtsAt H4 (N0 T ins.length) (.ref D2) (ratesL T ins.length outs.length pl) := ⟨D2, us, rfl, hD2, paired_mono (fun _ _ ⟨a, e, h⟩ => ⟨a, e, st_same _ _ h⟩) pu⟩
        exact paired_snoc (paired_mono (fun _ _ => PtsAt.same (st_mono (sm3.trans sm4))) pp) (hv.st hD4 nbD)
    · rintro σ H2 ⟨w2, w3, w4, rfl, vs, sm2, hD, pp⟩
      rw [li] at pp
      exact ⟨_, rfl, Qk H2 D sm2 nD ⟨vs, hD, paired_mono (fun _ _ => PtsAt.same st_same) pp⟩⟩
end
end Hl

set_option Elab.async false
set_option linter.all false
set_option maxRecDepth 100000
set_option maxHeartbeats 4000000
namespace Hl
open PySem PySem.Spec PyProof.Rows L2
/-- the law's def as the claim itself calls it, at the script's address: no repr is under way there -/
def Top (P : Program) (w : World) (K : PySem.W.Frag) (mg : Str → Option Value) (base : Heap) (f a : Addr) (sp : Sp) : Prop :=
  ∀ (s : Shared) (H : Hp) (Q : VK), Env0 P w K mg base callerA [] s H → sp [.ref a] H Q E0 → codeAny (model P w) callerA (.call (.ref f) ⟨[.ref a], []⟩) (CR CX0 [] P w H s Q E0) s
theorem Fun.top {P : Program} {w : World} {K : PySem.W.Frag} {mg : Str → Option Value} {base : Heap} {x qual y : Str} {st : Stmt} {f a : Addr} {fd : FuncData} {N : List Str} {k : Nat} {sp : Sp} (F : Fun K x qual st f fd) (S : FnScope N [y] (defScope st)) (room : Room (k + 1) callerA)
    (bind : ∀ (s : Shared) (u : Value), BindsTo s fd ⟨[u], []⟩ [(y, u)])
    (body : ∀ (cdv : Value) (s : Shared) (H : Hp) (Q : VK), Room k (callerA.deeper (envOfC qual (defScope st) s.heap.objs.size f cdv)) → (callerA.deeper (envOfC qual (defScope st) s.heap.objs.size f cdv)).guards = some [] → sp [.ref a] H Q E0 →
      ∃ t, PSs (cxOf CX0 P w K mg base N qual (defScope st) f cdv callerA [] s H E0).nox (defBody st) t ∧ t { nx := fun _ H' => Q .non H', rt := Q } (start N [.ref a]) H) : Top P w K mg base f a sp := by
  obtain ⟨oc, od, kV, doc, pm, an, cdv, ct, osl, rfl, lk, code⟩ := F.ex
  intro s H Q env0 want
  obtain ⟨t, term, goal⟩ := body cdv s H Q (room.deeper _) rfl want
  have kin : K.In s.heap := env0.mod.kin.keeps fun b o e => (env0.bs b o e).1
  refine codeAny_call_function room.depth (kin _ _ lk) rfl S.co S.gen rfl (PySem.W.codeRec_of kin code) (bind s (.ref a) _ _ _ _ ?_)
  refine wpAny_newFunctionEnv_cells S.kind (fun q hq => ?_) fun env he s1 inside => ?_
  · have e := List.mem_singleton.mp hq
    subst e
    exact (S.par y List.mem_cons_self).imp id fun c => ⟨c, PySem.W.cellsFrom_some _ _ _ (.inl c)⟩
  subst he
  have I : Inv (cxOf CX0 P w K mg base N qual (defScope st) f cdv callerA [] s H E0) [] (start N [.ref a]) H s1 := inv_start (ps := [y]) (us := [.ref a]) S room.hd env0 rfl (.cons rfl .nil) inside
  refine ⟨(env0.mod.nolimit.keeps fun b o e => (env0.bs b o e).1).keeps inside.toInCall.keep, codeAny_func (wpAny_mono (term.nox.run [] s1 _ H _ I goal) (fun fl s' got => ?_) fun _ _ got => got)⟩
  match fl, got with
  | .ret u, ⟨v, _, H', J, rv, q⟩ => exact ⟨v, H', J.os, J.bare, J.base, J.hok, rv, q⟩
  | .next, ⟨_, H', J, q⟩ => exact ⟨.non, H', J.os, J.bare, J.base, J.hok, rfl, q⟩
  | .brk, ⟨_, _, _, q⟩ => exact q.elim
  | .cont, ⟨_, _, _, q⟩ => exact q.elim
/-- from a heap in which at most the script is tracked -/
theorem top_run {P : Program} {w : World} {K : PySem.W.Frag} {mg mb : Str → Option Value} {fa a : Addr} {sp : Sp} {s₁ : Shared} {vs : List Value} {xs : List V} {H : Hp}
    (KX : K.In s₁.heap) (nsm : s₁.heap.Ns mainGlobals mg) (nsb : s₁.heap.Ns builtinsNs mb) (boot : ∀ x : Str, x ≠ "__name__" → mb x = bootBuiltins x) (lim : s₁.heap.NoLimit) (gens : s₁.gens = #[])
    (ha : s₁.heap.get? a = some { cls := .type "list", data := .seq vs.toArray }) (rv : Vals xs vs) (small : xs.length ≤ sizeLine)
    (T : ∀ base : Heap, K.In base → base.Ns mainGlobals mg → Top P w K mg base fa a sp)
    (track : ∀ b u, H b = some u → b = a ∧ K.lookup a = none ∧ u = .frz { cls := .type "list", data := .seq vs.toArray } (.lst xs)) (want : sp [.ref a] H (fun v _ => v = .bl true) E0) :
    codeAny (model P w) callerA (.call (.ref fa) ⟨[.ref a], []⟩) (fun r s' => r = .ok (.ret (.bool true)) ∧ OldK s₁.heap s'.heap ∧ s'.os = s₁.os ∧ AllBare s'.gens) s₁ := by
  have hok : HOk P w H s₁.heap := fun b u e => by
    obtain ⟨rfl, _, rfl⟩ := track b u e
    exact ⟨ha, small, vs, _, rv, ha⟩
  have plain : ∀ {b : Addr} {m : Str → Option Value}, s₁.heap.Ns b m → (hidT s₁.heap H).Ns b m := by
    rintro b m ⟨o, es, ep, e, d, r⟩
    refine ⟨o, es, ep, hidT_get e ?_, d, r⟩
    cases h : H b with
    | none => rfl
    | some u =>
      obtain ⟨rfl, _⟩ := track b u h
      rw [ha] at e
      cases e
      exact Data.noConfusion d
  have kin : K.In (hidT s₁.heap H) := fun b o e => hidT_get (KX b o e) (by
    cases h : H b with
    | none => rfl
    | some u =>
      obtain ⟨rfl, q, _⟩ := track b u h
      rw [q] at e
      cases e)
  obtain ⟨mc, lim1, lim2⟩ := lim
  have env0 : Env0 P w K mg (hidT s₁.heap H) callerA [] s₁ H := ⟨rfl, ⟨kin, plain nsm, ⟨mb, plain nsb, boot⟩, mc, plain lim1, lim2⟩, fun _ _ e => of_hidT e, Nat.le_of_eq (hidT_size _ _), trivial, fun b hb => absurd hb (List.not_mem_nil), hok, .of_eq gens⟩
  refine codeAny_mono (T _ kin (plain nsm) s₁ H _ env0 want) fun r s' got => ?_
  match r, got with
  | .ok (.ret u), ⟨v, H', os, bare, un, hok', rel, q⟩ =>
    cases (show v = .bl true from q)
    cases (show u = Value.bool true from rel)
    refine ⟨rfl, OldK.of_keep fun b o e => ?_, os, bare⟩
    cases h : H b with
    | none => exact un.keep b o e h (List.not_mem_nil) (List.not_mem_nil)
    | some u =>
      obtain ⟨rfl, _, rfl⟩ := track b u h
      rw [ha] at e
      cases e
      exact (hok' b _ (un.frzs b _ _ h)).1
theorem walk_top {l : PySem.W.OpenLaw} {n : Nat} {q : Program} {loose : List Str} {XP : (Str → Option Value) → Heap → Prop} {YP : World → Heap → Prop} {d : DefRec} {K : Params → PySem.W.Frag} {sp : World → Sp}
    (hn : l.most = some n) (hn2 : n ≤ sizeLine) (hdf : d.params.defaults = []) (hY : ∀ (w : World) (h : Heap), YP w h → (K w.params).In h)
    (T : ∀ (w : World) (mg : Str → Option Value) (fa a : Addr) (h : Heap), (K w.params).In h → h.Ns mainGlobals mg → mg d.name = some (.ref fa) → ∀ base : Heap, (K w.params).In base → base.Ns mainGlobals mg → Top l.prog w (K w.params) mg base fa a (sp w))
    (want : ∀ (w : World) (H : Hp) (a : Addr) (ns : List Int), ns.length ≤ n → SqL (K w.params) H a (ns.map V.int) → sp w [.ref a] H (fun v _ => v = .bl true) E0) :
    PySem.W.WalkO q loose XP YP l.row.toRowW d [] (fun f vs => PySem.call f vs) := by
  refine Att.attach_call hn hdf fun w s₀ s₁ mg mb fa o pm cd doc a vs ns G Y ho hd hcd hmg hobj hints hlen hg => ?_
  have KX := hY w _ Y
  have rv := vals_ints hints
  have small : (ns.map V.int).length ≤ sizeLine := by rw [List.length_map]; exact Nat.le_trans hlen hn2
  cases hk : (K w.params).lookup a with
  | some o' =>
    have e := KX a o' hk
    rw [hobj] at e
    cases e
    exact top_run KX G.T.g G.T.b G.T.builtins G.T.nolimit hg hobj rv small (T w mg fa a _ KX G.T.g hmg) (H := fun _ => none) (fun b u z => nomatch z)
      (want w _ a ns hlen (.inr ⟨_, vs.toArray, _, hk, rfl, rfl, rfl, by rw [List.size_toArray, ← rv.length]; exact small, by simpa using rv⟩))
  | none =>
    exact top_run KX G.T.g G.T.b G.T.builtins G.T.nolimit hg hobj rv small (T w mg fa a _ KX G.T.g hmg) (H := fun b => if b = a then some (.frz { cls := .type "list", data := .seq vs.toArray } (.lst (ns.map V.int))) else none)
      (fun b u z => by
        by_cases e : b = a
        · rw [if_pos e] at z
          cases z
          exact ⟨e, hk, rfl⟩
        · rw [if_neg e] at z
          cases z)
      (want w _ a ns hlen (.inl (.inr ⟨_, if_pos rfl⟩)))
end Hl

set_option Elab.async false
set_option linter.all false
set_option maxRecDepth 100000
set_option maxHeartbeats 4000000
namespace Hl
open PySem PySem.Spec PyProof.Rows L2
/-- v is told by d in every heap that holds H -/
def Tol (P : Program) (w : World) (H : Hp) (v : V) (d : PyData) : Prop := ∀ (h : Heap) (u : Value), HOk P w H h → RelV v u → ∃ as, Reads h u d as
section
variable {P : Program} {w : World} {H : Hp}
theorem tol_int {i : Int} : Tol P w H (.int i) (.int i) := fun h u _ r => by
  obtain ⟨t, rfl⟩ := r
  exact ⟨_, .int i t⟩
theorem tol_all {h : Heap} (ok : HOk P w H h) : ∀ {xs : List V} {us : List Value} {ds : List PyData}, Vals xs us → Paired (Tol P w H) xs ds → ∃ as, ReadsAll h us ds as
  | _, _, _, .nil, .nil => ⟨_, .nil⟩
  | _, _, _, .cons r rs, .cons t ts => by
    obtain ⟨as, h1⟩ := t h _ ok r
    obtain ⟨bs, h2⟩ := tol_all ok rs ts
    exact ⟨_, .cons h1 h2⟩
theorem tol_lst {a : Addr} {xs : List V} {ds : List PyData} (ha : H a = some (.lst xs)) (p : Paired (Tol P w H) xs ds) : Tol P w H (.ref a) (.list ds) := fun h u ok r => by
  cases (show u = Value.ref a from r)
  obtain ⟨_, us, n, rv, e⟩ := ok a _ ha
  obtain ⟨as, ra⟩ := tol_all ok rv p
  exact ⟨_, .list e rfl rfl ra⟩
theorem tol_tup {a : Addr} {xs : List V} {ds : List PyData} (ha : H a = some (.tup xs)) (p : Paired (Tol P w H) xs ds) : Tol P w H (.ref a) (.tuple ds) := fun h u ok r => by
  cases (show u = Value.ref a from r)
  obtain ⟨_, us, rv, o, e, c, n, d⟩ := ok a _ ha
  obtain ⟨as, ra⟩ := tol_all ok rv p
  exact ⟨_, .tuple e c d ra⟩
end
/-- repr of what is told, where no repr is under way -/
theorem call_reprD {X : Cx} (hg : X.A.guards = some []) (hu : X.A.units + 64 < cLine) : CallR X (.builtin "repr") (fun xs H Q => ∃ a d, xs = [.ref a] ∧ Tol X.prog X.w H (.ref a) d ∧ d.showable = true ∧ d.hasDict = false ∧ d.depth ≤ 60 ∧ d.shown.length ≤ sizeLine ∧ Q (.str d.shown) H) := by
  intro pins s σ H xs us Q I r h
  obtain ⟨a, d, rfl, t, h1, h2, h3, h4, q⟩ := h
  obtain ⟨u, rfl, ru⟩ := vals1 r
  cases (show u = Value.ref a from ru)
  obtain ⟨as, rd⟩ := t s.heap _ I.hok rfl
  exact repr_of_reads' rd h1 (PyData.noDict_hsm h2) hg (by omega) (fun _ _ e => e) (fun h' u tk hk => ⟨.str _, H, I.kept hk, ⟨_, rfl⟩, q⟩) h4
theorem paired_map {α β γ : Type} {R : α → β → Prop} {S : α → γ → Prop} {g : β → γ} (h : ∀ x y, R x y → S x (g y)) : ∀ {xs : List α} {ys : List β}, Paired R xs ys → Paired S xs (ys.map g)
  | _, _, .nil => .nil
  | _, _, .cons a b => .cons (h _ _ a) (paired_map h b)
theorem showAll_map {α : Type} {g : α → PyData} : ∀ {l : List α}, (∀ x ∈ l, (g x).showable = true) → PyData.showableAll (l.map g) = true
  | [], _ => rfl
  | x :: l, h => by
    show ((g x).showable && PyData.showableAll (l.map g)) = true
    rw [h x List.mem_cons_self, showAll_map fun y hy => h y (List.mem_cons_of_mem _ hy)]
    rfl
theorem noDictAll_map {α : Type} {g : α → PyData} : ∀ {l : List α}, (∀ x ∈ l, (g x).hasDict = false) → PyData.hasDictAll (l.map g) = false
  | [], _ => rfl
  | x :: l, h => by
    show ((g x).hasDict || PyData.hasDictAll (l.map g)) = false
    rw [h x List.mem_cons_self, noDictAll_map fun y hy => h y (List.mem_cons_of_mem _ hy)]
    rfl
theorem depthAll_map {α : Type} {g : α → PyData} {n : Nat} : ∀ {l : List α}, (∀ x ∈ l, (g x).depth ≤ n) → PyData.depthAll (l.map g) ≤ n
  | [], _ => Nat.zero_le _
  | x :: l, h => by
    show max (g x).depth (PyData.depthAll (l.map g)) ≤ n
    have h1 := h x List.mem_cons_self
    have h2 := depthAll_map fun y hy => h y (List.mem_cons_of_mem _ hy)
    omega
theorem shownAll_len {α : Type} {g : α → PyData} {n : Nat} : ∀ {l : List α}, (∀ x ∈ l, (g x).shown.length ≤ n) → ((PyData.shownAll (l.map g)).map (·.length)).sum ≤ n * l.length ∧ (PyData.shownAll (l.map g)).length = l.length
  | [], _ => ⟨Nat.zero_le _, rfl⟩
  | x :: l, h => by
    obtain ⟨h1, h2⟩ := shownAll_len fun y hy => h y (List.mem_cons_of_mem _ hy)
    have h3 := h x List.mem_cons_self
    refine ⟨?_, by show (PyData.shownAll (l.map g)).length + 1 = _; rw [h2]; rfl⟩
    show (g x).shown.length + ((PyData.shownAll (l.map g)).map (·.length)).sum ≤ n * (l.length + 1)
    rw [Nat.mul_add]
    omega
theorem int_ok {a : Int} (h : a.natAbs < 2 ^ 100) : (PyData.int a).showable = true ∧ (PyData.int a).shown.length ≤ 101 := by
  have lg : a.natAbs.log2 < 100 := by
    by_cases z : a.natAbs = 0
    · rw [z]; decide
    · exact (Nat.log2_lt z).mpr h
  refine ⟨?_, ?_⟩
  · show decide (a.natAbs.log2 < 1920) = true
    exact decide_eq_true (by omega)
  · show (Str.ofString (toString a)).length ≤ 101
    rw [PySem.ofString_length]
    exact int_text_length_le (by decide) lg
end Hl

set_option Elab.async false
set_option linter.all false
set_option maxRecDepth 100000
set_option maxHeartbeats 4000000
namespace Hl
open PySem PySem.Spec PyProof.Rows L2
/-! lists of pairs of ints -/
abbrev Prs := List (Int × Int)
def PrAt (H : Hp) (v : V) (p : Int × Int) : Prop := ∃ c, v = .ref c ∧ H c = some (.tup [.int p.1, .int p.2])
/-- a row: a list, or a tuple -/
def seqO (t : Bool) (vs : List V) : HO := if t = true then .tup vs else .lst vs
def RwAt (t : Bool) (H : Hp) (v : V) (ps : Prs) : Prop := ∃ b vs, v = .ref b ∧ H b = some (seqO t vs) ∧ Paired (PrAt H) vs ps
def LsF (t : Bool) (H : Hp) (q : Addr) (L : List Prs) : Prop := ∃ vs, H q = some (.lst vs) ∧ Paired (RwAt t H) vs L
theorem PrAt.same {H H' : Hp} {v : V} {p : Int × Int} (k : Same H H') (h : PrAt H v p) : PrAt H' v p := let ⟨c, e, h⟩ := h; ⟨c, e, k _ _ h⟩
theorem RwAt.same {t : Bool} {H H' : Hp} {v : V} {ps : Prs} (k : Same H H') (h : RwAt t H v ps) : RwAt t H' v ps := let ⟨b, vs, e, h, p⟩ := h; ⟨b, vs, e, k _ _ h, paired_mono (fun _ _ => PrAt.same k) p⟩
theorem LsF.same {t : Bool} {H H' : Hp} {q : Addr} {L : List Prs} (k : Same H H') (h : LsF t H q L) : LsF t H' q L := let ⟨vs, h, p⟩ := h; ⟨vs, k _ _ h, paired_mono (fun _ _ => RwAt.same k) p⟩
theorem PrAt.kp {H H' : Hp} {v : V} {p : Int × Int} (k : Kp H H') (h : PrAt H v p) : PrAt H' v p := let ⟨c, e, h⟩ := h; ⟨c, e, k.keep _ _ nd_tup h⟩
theorem nd_prs {H : Hp} {vs : List V} {ps : Prs} (h : Paired (PrAt H) vs ps) : Nd (.lst vs) := fun l a z m c e => by
  have e' := HO.lst.inj (show HO.lst vs = .lst [.ref l, .int a, .int z, .int m, .int c] from e)
  subst e'
  match ps, h with
  | _, .cons _ (.cons ⟨_, e2, _⟩ _) => cases e2
theorem nd_rws {t : Bool} {H : Hp} {vs : List V} {L : List Prs} (h : Paired (RwAt t H) vs L) : Nd (.lst vs) := fun l a z m c e => by
  have e' := HO.lst.inj (show HO.lst vs = .lst [.ref l, .int a, .int z, .int m, .int c] from e)
  subst e'
  match L, h with
  | _, .cons _ (.cons ⟨_, _, e2, _⟩ _) => cases e2
theorem nd_seqO {t : Bool} {H : Hp} {vs : List V} {ps : Prs} (h : Paired (PrAt H) vs ps) : Nd (seqO t vs) := by
  cases t with
  | true => exact nd_tup
  | false => exact nd_prs h
theorem RwAt.kp {t : Bool} {H H' : Hp} {v : V} {ps : Prs} (k : Kp H H') (h : RwAt t H v ps) : RwAt t H' v ps := let ⟨b, vs, e, h, p⟩ := h; ⟨b, vs, e, k.keep _ _ (nd_seqO p) h, paired_mono (fun _ _ => PrAt.kp k) p⟩
theorem LsF.kp {t : Bool} {H H' : Hp} {q : Addr} {L : List Prs} (k : Kp H H') (h : LsF t H q L) : LsF t H' q L := let ⟨vs, h, p⟩ := h; ⟨vs, k.keep _ _ (nd_rws p) h, paired_mono (fun _ _ => RwAt.kp k) p⟩
theorem seqO_q {K : PySem.W.Frag} {t : Bool} {H : Hp} {b : Addr} {vs : List V} (h : H b = some (seqO t vs)) : SqL K H b vs ∨ SqT K H b vs := by
  cases t with
  | true => exact .inr (SqT.of h)
  | false => exact .inl (SqL.of h)
theorem seqO_o {t : Bool} {H : Hp} {b : Addr} {vs : List V} (h : H b = some (seqO t vs)) : SqO H b vs := by
  cases t with
  | true => exact .inr h
  | false => exact .inl h
/-- how great they are -/
def Bd (c d : Nat) (L : List Prs) : Prop := ∀ r ∈ L, ∀ p ∈ r, p.1.natAbs < 2 ^ c ∧ p.2.natAbs < 2 ^ d
def L3 (L : List Prs) : Prop := ∀ r ∈ L, r.length ≤ 3
theorem Bd.mono {c d c' d' : Nat} {L : List Prs} (h : Bd c d L) (h1 : c ≤ c') (h2 : d ≤ d') : Bd c' d' L := fun r hr p hp =>
  ⟨Nat.lt_of_lt_of_le (h r hr p hp).1 (Nat.pow_le_pow_right (by decide) h1), Nat.lt_of_lt_of_le (h r hr p hp).2 (Nat.pow_le_pow_right (by decide) h2)⟩
/-- as data -/
def prD (p : Int × Int) : PyData := .tuple [.int p.1, .int p.2]
def rwD (t : Bool) (ps : Prs) : PyData := if t = true then .tuple (ps.map prD) else .list (ps.map prD)
def lsD (t : Bool) (L : List Prs) : PyData := .list (L.map (rwD t))
section
variable {K : PySem.W.Frag} {P : Program} {w : World} {H : Hp}
theorem PrAt.dp {v : V} {p : Int × Int} (h : PrAt H v p) : Dp K H v (prD p) := by
  obtain ⟨c, rfl, hc⟩ := h
  exact .tup (SqT.of hc) (.cons (.int _) (.cons (.int _) .nil))
theorem prs_dp : ∀ {vs : List V} {ps : Prs}, Paired (PrAt H) vs ps → DpAll K H vs (ps.map prD)
  | _, _, .nil => .nil
  | _, _, .cons a r => .cons (PrAt.dp a) (prs_dp r)
theorem PrAt.tol {v : V} {p : Int × Int} (h : PrAt H v p) : Tol P w H v (prD p) := by
  obtain ⟨c, rfl, hc⟩ := h
  exact tol_tup hc (.cons tol_int (.cons tol_int .nil))
theorem RwAt.tol {t : Bool} {v : V} {ps : Prs} (h : RwAt t H v ps) : Tol P w H v (rwD t ps) := by
  obtain ⟨b, vs, rfl, hb, p⟩ := h
  cases t with
  | true => exact tol_tup hb (paired_map (fun _ _ h => PrAt.tol h) p)
  | false => exact tol_lst hb (paired_map (fun _ _ h => PrAt.tol h) p)
theorem LsF.tol {t : Bool} {q : Addr} {L : List Prs} (h : LsF t H q L) : Tol P w H (.ref q) (lsD t L) := by
  obtain ⟨vs, hq, p⟩ := h
  exact tol_lst hq (paired_map (fun _ _ h => RwAt.tol h) p)
end
/-! parts as pairs -/
theorem lowB {o u : Int} (h : 0 < u) : ∃ x y, lowF o u = [.int x, .int y] ∧ x.natAbs ≤ o.natAbs ∧ 0 < y ∧ y ≤ u := by
  have g0 : 0 < gI o u := gI_pos (by omega)
  refine ⟨_, _, rfl, ?_, ?_, ?_⟩
  · rw [sgn_pos h, Int.fdiv_eq_ediv_of_nonneg _ (by omega)]
    exact Int.natAbs_ediv_le_natAbs _ _
  · rw [sgn_pos h, Int.fdiv_eq_ediv_of_nonneg _ (by omega)]
    exact Int.ediv_pos_of_pos_of_dvd h (by omega) (gI_dvd_right o u)
  · rw [sgn_pos h, Int.fdiv_eq_ediv_of_nonneg _ (by omega)]
    exact Int.ediv_le_self _ (by omega)
/-- a row of parts -/
structure Gp (c : Nat) (p : Int × Int) : Prop where
  b : p.1.natAbs ≤ c
  y0 : 0 < p.2
  yb : p.2 ≤ 216000
theorem pts_rw {H : Hp} {N : Int} {c : Nat} (n0 : 0 < N) (nb : N ≤ 216000) : ∀ {vs : List V} {Xs : List Int}, Paired (PtAt H N) vs Xs → (∀ X ∈ Xs, X.natAbs ≤ c) → ∃ ps : Prs, Paired (PrAt H) vs ps ∧ ps.length = Xs.length ∧ ∀ p ∈ ps, Gp c p
  | _, _, .nil, _ => ⟨[], .nil, rfl, fun p hp => by cases hp⟩
  | _, _, .cons (b := X) ⟨a, e, h⟩ r, hb => by
    obtain ⟨ps, h1, h2, h3⟩ := pts_rw n0 nb r fun Y hY => hb Y (List.mem_cons_of_mem _ hY)
    obtain ⟨x, y, e2, b1, b2, b3⟩ := lowB (o := X) n0
    rw [e2] at h
    have bX := hb X List.mem_cons_self
    refine ⟨(x, y) :: ps, .cons ⟨a, e, h⟩ h1, congrArg (· + 1) h2, fun p hp => ?_⟩
    rcases List.mem_cons.mp hp with z | z
    · rw [z]
      exact ⟨by show x.natAbs ≤ c; omega, b2, by show y ≤ 216000; omega⟩
    · exact h3 p z
end Hl

set_option Elab.async false
set_option linter.all false
set_option maxRecDepth 100000
set_option maxHeartbeats 4000000
namespace Hl
open PySem PySem.Spec PyProof.Rows L2
abbrev sOp : Stmt := topS 39
theorem paired_of {α β : Type} {R : α → β → Prop} : ∀ {xs : List α} {ys : List β}, xs.length = ys.length → (∀ (j : Nat) (x : α) (y : β), xs[j]? = some x → ys[j]? = some y → R x y) → Paired R xs ys
  | [], [], _, _ => .nil
  | x :: xs, y :: ys, hl, h => .cons (h 0 x y rfl rfl) (paired_of (Nat.succ.inj hl) fun j a b ha hb => h (j + 1) a b ha hb)
theorem rep_ref (r : Nat) (v : V) : (List.replicate r [v]).flatten = List.replicate r v := by
  induction r with
  | zero => rfl
  | succ r ih => rw [List.replicate_succ, List.flatten_cons, ih, List.replicate_succ]; rfl
/-- purses are not too great -/
theorem phi_bd {T : Tab} {k n : Nat} (law : Lawful T k n) (k3 : k ≤ 3) {found : List Nat} (pa : Par T found) (h0 : found[0]? = some 0) (lt : ∀ x ∈ found, x < T.length) : ∀ (i s : Nat), found[i]? = some s → ∀ j, j < n → (phi T k s j).natAbs ≤ i * 20000000000000 := by
  intro i
  induction i using Nat.strongRecOn with
  | ind i ih =>
    intro s hs j hj
    rcases pa i s hs with h | ⟨j', o, a, e, h1, h2, h3, h4⟩
    · subst h
      rw [h0] at hs
      cases Option.some.inj hs
      rw [phi_zero law hj]
      exact Nat.zero_le _
    · have ol := lt o (List.mem_of_getElem? h2)
      have ak : a < k := by
        obtain ⟨row, hr, hi⟩ := getE_row h3
        have := law.rl row (List.mem_of_getElem? hr)
        have := (List.getElem?_eq_some_iff.mp hi).1
        omega
      obtain ⟨e', ge', en, tlt, ev⟩ := law_at law ol ak
      have ee : e' = e := Option.some.inj (ge'.symm.trans h3)
      subst ee
      have es : s = nxN T a o := by omega
      have b1 := ih j' h1 o h2 j hj
      have b2 := sdN_val law ol ak hj
      have b3 := rt0_bound law k3 ak hj
      have b4 : (N0 T k : Int) ≤ 216000 := by
        have := N0_le law k3
        omega
      have b5 : (N0 T k : Int) * sdN T a o j ≤ 216000 * 999999 := Int.mul_le_mul b4 b2.2 b2.1 (by decide)
      have b6 : 0 ≤ (N0 T k : Int) * sdN T a o j := Int.mul_nonneg (by omega) b2.1
      rw [es, phi_step law ak ol hj]
      have m1 : (j' + 1) * 20000000000000 ≤ i * 20000000000000 := Nat.mul_le_mul_right _ (by omega)
      rw [Nat.add_mul] at m1
      omega
section
variable {P : Program} {w : World} {K : PySem.W.Frag} {mg : Str → Option Value} {base : Heap}
/-! _law_own_purses -/
def spOp : Sp := fun vs H Q _ => ∃ (m i o q : Addr) (ins outs : List Str) (T : Tab), vs = [.ref m] ∧ Dev H m i o q ins outs T ∧ Lawful T ins.length outs.length ∧ ins.length ≤ 3 ∧ outs.length ≤ 3 ∧
  ∀ (H' : Hp) (q : Addr) (L : List Prs), Same H H' → LsF false H' q L → L.length = T.length → (∀ r ∈ L, r.length = outs.length ∧ ∀ p ∈ r, Gp 1200000000000000 p) → Q (.ref q) H'
abbrev nmOp : List Str := ["_law_m", "_law_steady", "_law_found", "_law_stand", "_law_place", "_law_there", "_law_sends", "_law_fresh", "_law_at", "_law_gain_here"]
theorem scOp : FnScope nmOp ["_law_m"] (defScope sOp) := ⟨rfl, rfl, rfl, by decide +kernel, rfl, by decide +kernel, by decide +kernel⟩
theorem ok_op {f fR fS fE : Addr} {fd fdR fdS fdE : FuncData} {k : Nat} (F : Fun K "_law_own_purses" "_law_own_purses" sOp f fd) (B : Bi mg) (Lr : Has P w K mg base k "_law_rates" ["_law_m"] spLrt fR fdR) (Su : Has P w K mg base k "_law_sum" ["_law_one", "_law_other"] (spBin K nPlus) fS fdS) (Re : Has P w K mg base k "_law_reached" ["_law_rows", "_law_start"] spLrc fE fdE) :
    FnOk P w K mg base CX0 (k + 1) f fd ["_law_m"] spOp := by
  refine F.ok scOp (fun vs H Q E h => ?_) (fun cdv A outer s H vs Q E hr h => ?_)
  · obtain ⟨m, i, o, q, ins, outs, T, rfl, _⟩ := h
    rfl
  · obtain ⟨m, i, o, q, ins, outs, T, rfl, dv, law, i3, o3, Qk⟩ := h
    refine ⟨_, (pss_cons (ps_set (i := 1) scOp.nd rfl (.inl rfl) (pe_call Lr.G hr (by rfl) Lr.g Lr.kp Lr.b .nil pass0 (pa_cons (pv 0) pa_nil)))
        (pss_cons (ps_set (i := 2) scOp.nd rfl (.inr rfl) (pe_disp (pps_cons pe_int (pe_op op_rep (pe_lst (pa_cons (pe_tup (pa_cons pe_int (pa_cons pe_int pa_nil))) pa_nil)) (pe_callB call_len_seq (by rfl) B.len PySem.boot_len (pa_cons (pe_dget (hu_of hr) (pv 0) pe_str (fun _ _ => rfl)) pa_nil))) pps_nil) (by rfl) (by rfl) (fun z => by cases z) (by decide)))
        (pss_cons (ps_for PassesOwn.never rfl (pi_list (pe_call Re.G hr (by rfl) Re.g Re.kp Re.b .nil pass0 (pa_cons (pe_dget (hu_of hr) (pv 0) pe_str (fun _ _ => rfl)) (pa_cons pe_int pa_nil)))) (pg_name (i := 3) scOp.nd rfl (.inl rfl))
          (pss_one (ps_for PassesOwn.never rfl (pi_range1 (by rfl) B.rng (pa_cons (pe_callB call_len_seq (by rfl) B.len PySem.boot_len (pa_cons (pe_dget (hu_of hr) (pv 0) pe_str (fun _ _ => rfl)) pa_nil)) pa_nil)) (pg_name (i := 4) scOp.nd rfl (.inl rfl))
          (pss_cons (ps_asg (pe_ix (r := rIx K) ix_seq (pe_ix (r := rIx K) ix_seq (pe_dget (hu_of hr) (pv 0) pe_str (fun _ _ => rfl)) (pv 3) (fun _ _ => rfl)) (pv 4) (fun _ _ => rfl)) (pg_tup rfl (pgs_cons (pg_name (i := 5) scOp.nd rfl (.inl rfl)) (pgs_cons (pg_name (i := 6) scOp.nd rfl (.inl rfl)) pgs_nil))))
        (pss_cons (ps_set (i := 7) scOp.nd rfl (.inl rfl) (pe_lst pa_nil))
        (pss_cons (ps_for PassesOwn.never rfl (pi_range1 (by rfl) B.rng (pa_cons (pe_callB call_len_seq (by rfl) B.len PySem.boot_len (pa_cons (pv 6) pa_nil)) pa_nil)) (pg_name (i := 8) scOp.nd rfl (.inl rfl))
          (pss_cons (ps_set (i := 9) scOp.nd rfl (.inl rfl) (pe_call Su.G hr (by rfl) Su.g Su.kp Su.b .nil pass0 (pa_cons (pe_tup (pa_cons (pe_ix (r := rIxT K) ix_tup (pv 6) (pv 8) (fun _ _ => rfl)) (pa_cons pe_int pa_nil))) (pa_cons (pe_tup (pa_cons (pe_op op_sub pe_int (pe_ix (r := rIxT K) ix_tup (pe_ix (r := rIxL K) ix_list (pe_ix (r := rIxL K) ix_list (pv 1) (pv 4) (fun _ _ => rfl)) (pv 8) (fun _ _ => rfl)) pe_int (fun _ _ => rfl))) (pa_cons (pe_ix (r := rIxT K) ix_tup (pe_ix (r := rIxL K) ix_list (pe_ix (r := rIxL K) ix_list (pv 1) (pv 4) (fun _ _ => rfl)) (pv 8) (fun _ _ => rfl)) pe_int (fun _ _ => rfl)) pa_nil))) pa_nil))))
        (pss_one (ps_expr (pe_bm PySem.F.plainAttrs_list PySem.F.slot_list_append PySem.F.type_list_append mt_append (pv 7) (pa_cons (pe_call Su.G hr (by rfl) Su.g Su.kp Su.b .nil pass0 (pa_cons (pe_ix (r := rIxL K) ix_list (pe_dget (hu_of hr) (pv 2) (pv 3) (fun _ _ => rfl)) (pv 8) (fun _ _ => rfl)) (pa_cons (pv 9) pa_nil))) pa_nil))))))
        (pss_one (ps_expr (pe_dsetd (pv 2) (pv 5) (pv 7) ⟨rfl, rfl, rfl, rfl⟩)))))))))
        (pss_one (ps_ret (pe_lc (own := [("_law_stand", 3)]) (g := gName 3) (tt := tYes) rfl scOp.nd (pi_range1 (by rfl) B.rng (pa_cons (pe_callB call_len_seq (by rfl) B.len PySem.boot_len (pa_cons (pe_dget (hu_of hr) (pv 0) pe_str (fun _ _ => rfl)) pa_nil)) pa_nil)) (blkOk_by (own := [("_law_stand", 3)]) (N := nmOp) (sc := defScope sOp) (by decide +kernel)) (fun _ _ _ _ _ => (pg_name (i := 3) scOp.nd rfl (Or.inl rfl))) (fun _ _ _ _ _ => pts_nil) (fun _ _ _ _ _ => (pe_dget (hu_of hr) (pv 2) (pv 3) (fun _ _ => rfl))))))))), ?_⟩
    have n60 := law.n60
    have n1 := law.n1
    have li : (ins.map V.str).length = ins.length := List.length_map _
    have lo : (outs.map V.str).length = outs.length := List.length_map _
    obtain ⟨N, hN⟩ : ∃ N : Int, N = (N0 T ins.length : Nat) := ⟨_, rfl⟩
    have n0 : 0 < N := by
      have := N0_pos law
      omega
    have nb : N ≤ 216000 := by
      have := N0_le law i3
      omega
    refine ⟨_, rfl, m, i, o, q, ins, outs, T, rfl, dv, law, i3, o3, fun H1 qa sm1 nqa rat => ?_⟩
    have dv1 := dv.same sm1
    obtain ⟨vr, hvr, prr⟩ := rat
    intro Md nM
    have sM := same_upd (o := .dK []) nM
    refine ⟨(by show 2 ≤ sizeLine; decide), fun tp ntp => ?_⟩
    refine ⟨(by show 1 ≤ sizeLine; decide), fun z nz => ?_⟩
    have s1 := sM.trans ((same_upd (o := .tup [.int 0, .int 1]) ntp).trans (same_upd (o := .lst [.ref tp]) nz))
    have dvz := dv1.same s1
    refine ⟨_, rfl, m, _, rfl, dvz.go, o, _, rfl, .inl (SqL.of dvz.ho), z, ((outs.map V.str).length : Int), _, rfl, rfl, upd_same, by omega, by omega, ?_, fun D0 nD0 => ?_⟩
    · rw [Int.toNat_natCast, lo]
      show 1 * outs.length ≤ sizeLine
      exact Nat.le_of_lt (small1000 (by omega))
    rw [Int.toNat_natCast, rep_ref, lo]
    have sD0 := same_upd (o := .lst (List.replicate outs.length (.ref tp))) nD0
    have htp : upd (upd (upd (upd H1 Md (.dK [])) tp (.tup [.int 0, .int 1])) z (.lst [.ref tp])) D0 (.lst (List.replicate outs.length (.ref tp))) tp = some (.tup [.int 0, .int 1]) := sD0 _ _ ((same_upd (o := .lst [.ref tp]) nz) _ _ upd_same)
    have hM3 : upd (upd (upd (upd H1 Md (.dK [])) tp (.tup [.int 0, .int 1])) z (.lst [.ref tp])) D0 (.lst (List.replicate outs.length (.ref tp))) Md = some (.dK []) := sD0 _ _ ((same_upd (o := .lst [.ref tp]) nz) _ _ ((same_upd (o := .tup [.int 0, .int 1]) ntp) _ _ upd_same))
    have hD3 : upd (upd (upd (upd H1 Md (.dK [])) tp (.tup [.int 0, .int 1])) z (.lst [.ref tp])) D0 (.lst (List.replicate outs.length (.ref tp))) D0 = some (.lst (List.replicate outs.length (.ref tp))) := upd_same
    have s2 := s1.trans sD0
    generalize upd (upd (upd (upd H1 Md (.dK [])) tp (.tup [.int 0, .int 1])) z (.lst [.ref tp])) D0 (.lst (List.replicate outs.length (.ref tp))) = H3 at *
    refine ⟨hM3, [(Sum.inl 0, .ref D0)], rfl, (by show 1 ≤ 15; decide), ?_⟩
    have nDM : D0 ≠ Md := fun z => by
      rw [z, hM3] at hD3
      cases hD3
    have ntM : tp ≠ Md := fun z => by
      rw [z, hM3] at htp
      cases htp
    have s4 := s2.put (o := .dK [(Sum.inl 0, .ref D0)]) nM
    have hM4 : (upd H3 Md (.dK [(Sum.inl 0, .ref D0)])) Md = some (.dK [(Sum.inl 0, .ref D0)]) := upd_same
    have hD4 : (upd H3 Md (.dK [(Sum.inl 0, .ref D0)])) D0 = some (.lst (List.replicate outs.length (.ref tp))) := by rw [upd_ne nDM]; exact hD3
    have htp4 : (upd H3 Md (.dK [(Sum.inl 0, .ref D0)])) tp = some (.tup [.int 0, .int 1]) := by rw [upd_ne ntM]; exact htp
    show tSeq _ _ _ _ (upd H3 Md (.dK [(Sum.inl 0, .ref D0)]))
    generalize (upd H3 Md (.dK [(Sum.inl 0, .ref D0)])) = H4 at *
    have pt4 : PtsAt (st [Md] H4) N (.ref D0) (vec outs.length (phi T ins.length 0)) := by
      refine ⟨D0, _, rfl, by rw [st_get (by simp [nDM])]; exact hD4, paired_of (by rw [List.length_replicate, vec_len]) fun j x y hx hy => ?_⟩
      have jl := (List.getElem?_eq_some_iff.mp hy).1
      rw [vec_len] at jl
      rw [vec_get jl] at hy
      cases Option.some.inj hy
      rw [List.getElem?_replicate, if_pos jl] at hx
      cases Option.some.inj hx
      refine ⟨tp, rfl, ?_⟩
      rw [st_get (by simp [ntM]), htp4, phi_zero law jl, low_int n0, Int.mul_zero]
    have dv4 := dv1.same s4
    refine ⟨_, rfl, m, _, rfl, dv4.gr, q, T, 0, rfl, dv4.ht, law.nxt i3, by omega, fun H5 qf found sm5 nqf hqf fnd lf flt fhd fpa => ?_⟩
    have bd := phi_bd law i3 fpa fhd flt
    have hM5 := sm5 _ _ hM4
    have pt5 := pt4.same (st_mono (L := [Md]) sm5)
    have s5 := s4.trans sm5
    have nMH : H Md = none := sm1.free nM
    have sH5 := sm1.trans s5
    have H0D : H D0 = none := by
      cases h : H D0 with
      | none => rfl
      | some o' =>
        have h1 := (sm1.trans (s1)) _ _ h
        rw [nD0] at h1
        cases h1
    have all : ∀ x, x < T.length → x ∈ found := fun x hx => (fnd x).mpr (law.re x hx)
    have mem0 : ∀ {i' x a : Nat} {fs : List Nat}, found[i']? = some x → 0 ∈ fs → (∀ j y b, j < i' → found[j]? = some y → b < ins.length → nxN T b y ∈ fs) → x ∈ fs := by
      intro i' x a fs hx z0 hcl
      rcases fpa i' x hx with h | ⟨j', o', a', e, h1, h2, h3, h4⟩
      · subst h
        rw [fhd] at hx
        cases Option.some.inj hx
        exact z0
      · have ol := flt o' (List.mem_of_getElem? h2)
        have ak : a' < ins.length := by
          obtain ⟨row, hr', hi⟩ := getE_row h3
          have := law.rl row (List.mem_of_getElem? hr')
          have := (List.getElem?_eq_some_iff.mp hi).1
          omega
        obtain ⟨e', ge', en, tlt, ev⟩ := law_at law ol ak
        have ee : e' = e := Option.some.inj (ge'.symm.trans h3)
        subst ee
        have es : x = nxN T a' o' := by omega
        rw [es]
        exact hcl j' o' a' h1 h2 ak
    have lt00 : ∀ x ∈ [0], x < T.length := fun x hx => by
      have : x = 0 := by simpa using hx
      omega
    refine ⟨qf, rfl, ⟨_, SqL.of hqf⟩, ?_⟩
    refine for_list (K := K) (a := qf) (xs := natV found) (fun i' σ H' => ∃ (kvs : List (Key × V)) (fs : List Nat) (v3 v4 v5 v6 v7 v8 v9 : Option V), σ = [some (.ref m), some (.ref qa), some (.ref Md), v3, v4, v5, v6, v7, v8, v9] ∧ Same H1 H' ∧ H' qf = some (.lst (natV found)) ∧ H' Md = some (.dK kvs) ∧ Paired (PuEnt H (st [Md] H') N outs.length (phi T ins.length)) kvs fs ∧ fs.Nodup ∧ (∀ x ∈ fs, x < T.length) ∧ 0 ∈ fs ∧ ∀ j y b, j < i' → found[j]? = some y → b < ins.length → nxN T b y ∈ fs)
      ⟨[(Sum.inl 0, .ref D0)], [0], none, none, none, none, none, none, none, rfl, s5, hqf, hM5, .cons ⟨D0, rfl, H0D, pt5⟩ .nil, by simp, lt00, by simp, fun j y b h => absurd h (Nat.not_lt_zero _)⟩ (fun i' σ H' _ ⟨_, _, _, _, _, _, _, _, _, _, _, kf, _⟩ => SqL.of kf) ?_ ?_
    · rintro i' x σ H6 hx ⟨kvs, fs, v3, v4, v5, v6, v7, v8, v9, rfl, sm6, kf6, hM6, pu6, nd6, lt6, z6, cl6⟩
      obtain ⟨o1, ho1, rfl⟩ := natV_get hx
      have ol := flt o1 (List.mem_of_getElem? ho1)
      have oin : o1 ∈ fs := mem0 (a := 0) ho1 z6 cl6
      have dv6 := dv1.same sm6
      refine ⟨_, rfl, m, _, rfl, dv6.gi, _, _, rfl, .inl (SqL.of dv6.hi), ((ins.map V.str).length : Int), rfl, by omega, by omega, ?_⟩
      refine for_range (lo := 0) (n := (ins.map V.str).length) (fun pl σ H' => ∃ (kvs : List (Key × V)) (fs : List Nat) (v4 v5 v6 v7 v8 v9 : Option V), σ = [some (.ref m), some (.ref qa), some (.ref Md), some (.int (o1 : Nat)), v4, v5, v6, v7, v8, v9] ∧ Same H1 H' ∧ H' qf = some (.lst (natV found)) ∧ H' Md = some (.dK kvs) ∧ Paired (PuEnt H (st [Md] H') N outs.length (phi T ins.length)) kvs fs ∧ fs.Nodup ∧ (∀ x ∈ fs, x < T.length) ∧ 0 ∈ fs ∧ o1 ∈ fs ∧ (∀ j y b, j < i' → found[j]? = some y → b < ins.length → nxN T b y ∈ fs) ∧ ∀ b, b < pl → nxN T b o1 ∈ fs)
        ⟨kvs, fs, _, _, _, _, _, _, rfl, sm6, kf6, hM6, pu6, nd6, lt6, z6, oin, cl6, fun b h => absurd h (Nat.not_lt_zero _)⟩ ?_ ?_
      · rintro pl σ H7 hpl ⟨kvs, fs, v4, v5, v6, v7, v8, v9, rfl, sm7, kf7, hM7, pu7, nd7, lt7, z7, oin7, cl7, cp7⟩
        have plk : pl < ins.length := by omega
        rw [show (0 + (pl : Int)) = ((pl : Nat) : Int) by omega]
        have dv7 := dv1.same sm7
        obtain ⟨e, ge, e1, nl, ev⟩ := law_at law ol plk
        obtain ⟨row, hr1, hr2⟩ := getE_row ge
        obtain ⟨v1, rv1, x1⟩ := rt_row (K := K) dv7.ht.any hr1
        obtain ⟨c1, t1, hc1, ht1, y1⟩ := rr_ent (K := K) rv1 hr2
        rw [ev] at ht1
        rw [e1] at hc1
        obtain ⟨tn, htn⟩ : ∃ tn, tn = nxN T pl o1 := ⟨_, rfl⟩
        rw [← htn] at hc1 nl
        have lev : ((vec outs.length (sdN T pl o1)).map V.int).length = outs.length := by rw [List.length_map, vec_len]
        refine ⟨_, rfl, m, _, rfl, dv7.gr, _, rfl, x1 _ ⟨_, rfl, y1 _ ⟨c1, _, rfl, SqT.of hc1, rfl, _, _, rfl, _, _, rfl, rfl, ?_⟩⟩⟩
        refine ⟨Nat.zero_le _, fun D nD => ?_⟩
        have sD := same_upd (o := .lst []) nD
        have ht1D := sD _ _ ht1
        have nDM7 : D ≠ Md := ne_of_fresh hM7 nD
        have H0D' : H D = none := sm1.free (sm7.free nD)
        have nDq : D ≠ qf := ne_of_fresh kf7 nD
        have nqM : qf ≠ Md := fun z => by
          rw [z, hM7] at kf7
          cases kf7
        have pu7D := paired_mono (fun _ _ => PuEnt.same (st_mono (L := [Md]) sD)) pu7
        obtain ⟨vj, hvj, b2, vs2, rfl, hb2, pb2⟩ := range_get2 prr plk
        rcases pu_val (t := o1) pu7D with ⟨hno', _, _⟩ | ⟨_, b0, hv0, f0, p0⟩
        · exact absurd oin7 hno'
        obtain ⟨b0', vs0, e0, hb0, pb0⟩ := p0
        cases e0
        have p0m : ∀ {H' : Hp}, Same (upd H7 D (.lst [])) H' → PtsAt (st [Md] H') N (.ref b0) (vec outs.length (phi T ins.length o1)) := fun sm => PtsAt.same (st_mono (L := [Md]) sm) ⟨b0, vs0, rfl, hb0, pb0⟩
        have hM7D := sD _ _ hM7
        have kf7D := sD _ _ kf7
        have fsl : fs.length ≤ T.length := nd_le _ _ nd7 lt7
        obtain ⟨ia, hia⟩ := List.mem_iff_getElem?.mp (all o1 ol)
        have bO : ∀ j', j' < outs.length → (phi T ins.length o1 j').natAbs ≤ 1200000000000000 := fun j' hj' => by
          have h1 := bd ia o1 hia j' hj'
          have h2 := (List.getElem?_eq_some_iff.mp hia).1
          have h3 : ia * 20000000000000 ≤ 60 * 20000000000000 := Nat.mul_le_mul_right _ (by omega)
          omega
        refine ⟨_, rfl, t1, _, rfl, .inr (SqT.of ht1D), (((vec outs.length (sdN T pl o1)).map V.int).length : Int), rfl, by omega, by omega, ?_⟩
        refine for_range (lo := 0) (n := ((vec outs.length (sdN T pl o1)).map V.int).length) (fun j σ H' => ∃ (v8 v9 : Option V) (us : List V), σ = [some (.ref m), some (.ref qa), some (.ref Md), some (.int (o1 : Nat)), some (.int (pl : Nat)), some (.int (tn : Nat)), some (.ref t1), some (.ref D), v8, v9] ∧ Same H7 H' ∧ (∀ b' o', b' ≠ D → upd H7 D (.lst []) b' = some o' → H' b' = some o') ∧ H' D = some (.lst us) ∧ Paired (PtAt (st [D, Md] H') N) us ((vec outs.length (phi T ins.length tn)).take j))
          ⟨_, _, [], rfl, sD, fun _ _ _ h => h, upd_same, .nil⟩ ?_ ?_
        · rintro j σ H8 hj ⟨w8, w9, us, rfl, sm8, kp8, hD8, pp8⟩
          have jl : j < outs.length := by omega
          rw [show (0 + (j : Int)) = ((j : Nat) : Int) by omega]
          have lus := pp8.length
          rw [List.length_take, vec_len] at lus
          obtain ⟨X0, hX0⟩ : ∃ X, X = phi T ins.length o1 j := ⟨_, rfl⟩
          obtain ⟨R, hR⟩ : ∃ X, X = rt0 T ins.length pl j := ⟨_, rfl⟩
          obtain ⟨Sd, hSd⟩ : ∃ X, X = sdN T pl o1 j := ⟨_, rfl⟩
          have b0x := bO j jl
          obtain ⟨q1, q2⟩ := rt0_bound law i3 plk jl
          obtain ⟨d1, d2⟩ := sdN_val law ol plk jl
          rw [← hX0] at b0x
          rw [← hR] at q1 q2
          rw [← hSd] at d1 d2
          have nS1 : N * Sd ≤ 216000 * 999999 := Int.mul_le_mul nb d2 d1 (by decide)
          have nS0 : 0 ≤ N * Sd := Int.mul_nonneg (by omega) d1
          obtain ⟨NS, hNS⟩ : ∃ X, X = N * Sd := ⟨_, rfl⟩
          rw [← hNS] at nS1 nS0
          have BgS : Big NS := by unfold Big; rw [e90]; omega
          have Bg0 : Big X0 := by unfold Big; rw [e90]; omega
          have BgR : Big R := by unfold Big; rw [e90]; omega
          have BgN : Big (-R) := by unfold Big; rw [e90]; omega
          have BgD : Big (NS + -R) := by unfold Big; rw [e90]; omega
          obtain ⟨xs, ys, pS⟩ := BgS.p2 n0 nb
          obtain ⟨x0, y0, p0⟩ := Bg0.p2 n0 nb
          obtain ⟨xr, yr, pR⟩ := BgR.p2 n0 nb
          obtain ⟨xn, yn, pn⟩ := BgN.p2 n0 nb
          obtain ⟨xd, yd, pD⟩ := BgD.p2 n0 nb
          have sm18 := sm7.trans sm8
          obtain ⟨u2, hu2, c2, eu2, hc2⟩ := paired_get2 pb2 j R (by rw [hR]; exact vec_get jl)
          subst eu2
          rw [← hN, pR.e] at hc2
          have hvr8 := sm18 _ _ hvr
          have hb28 := sm18 _ _ hb2
          have hc28 := sm18 _ _ hc2
          have ht18 := sm8 _ _ ht1
          have gv : ((vec outs.length (sdN T pl o1)).map V.int)[j]? = some (.int Sd) := by
            rw [List.getElem?_map, vec_get jl, hSd]
            rfl
          refine ⟨_, rfl, _, rfl, t1, _, _, _, rfl, rfl, SqT.of ht18, atI_nat (j := j) gv, (by show 2 ≤ sizeLine; decide), fun g ng => ?_⟩
          have sg := same_upd (o := .tup [.int Sd, .int 1]) ng
          have hgg : (upd H8 g (.tup [.int Sd, .int 1])) g = some (.tup (lowF NS N)) := by rw [upd_same, hNS, low_int n0]
          refine ⟨_, rfl, _, rfl, qa, _, _, _, rfl, rfl, SqL.of (sg _ _ hvr8), atI_nat (j := pl) hvj, _, rfl, b2, _, _, _, rfl, rfl, SqL.of (sg _ _ hb28), atI_nat (j := j) hu2, c2, _, 0, _, rfl, rfl, SqT.of (sg _ _ hc28), atI_nat (j := 0) rfl, _, _, rfl, rfl, ?_⟩
          refine ⟨_, rfl, _, rfl, qa, _, _, _, rfl, rfl, SqL.of (sg _ _ hvr8), atI_nat (j := pl) hvj, _, rfl, b2, _, _, _, rfl, rfl, SqL.of (sg _ _ hb28), atI_nat (j := j) hu2, c2, _, 1, _, rfl, rfl, SqT.of (sg _ _ hc28), atI_nat (j := 1) rfl, (by show 2 ≤ sizeLine; decide), fun g2' ng2 => ?_⟩
          have sg2 := same_upd (o := .tup [.int (0 - xr), .int yr]) ng2
          have hg2 : (upd (upd H8 g (.tup [.int Sd, .int 1])) g2' (.tup [.int (0 - xr), .int yr])) g2' = some (.tup (lowF (-R) N)) := by rw [upd_same, low_minus n0 pR.e]
          refine ⟨g, g2', _, _, xs, ys, xn, yn, rfl, SqT.of (sg2 _ _ hgg), SqT.of hg2, pS, pn, fun H9 d9 sm9 nd9 hd9 => ?_⟩
          rw [low_plus n0 pS pn] at hd9
          have s89 := (sg.trans sg2).trans sm9
          have hD9 := s89 _ _ hD8
          -- what stands for this stand
          have key : ∀ {b' : Addr} {o' : HO}, b' ≠ D → (st [Md] (upd H7 D (.lst []))) b' = some o' → H9 b' = some o' := fun {b' o'} hne h => s89 _ _ (kp8 _ _ hne (st_same _ _ h))
          have nb0D : b0 ≠ D := fun z => by
            rw [z, st_get (by simp [nDM7]), upd_same] at hb0
            have := HO.lst.inj (Option.some.inj hb0)
            rw [← this] at pb0
            have := pb0.length
            rw [vec_len] at this
            simp at this
            omega
          obtain ⟨u0, hu0, c0, eu0, hc0⟩ := paired_get2 pb0 j X0 (by rw [hX0]; exact vec_get jl)
          subst eu0
          have nc0D : c0 ≠ D := fun z => by
            rw [z, st_get (by simp [nDM7]), upd_same] at hc0
            cases hc0
          have hM9 := s89 _ _ (sm8 _ _ hM7)
          have gvd : DGet H9 Md (.int (o1 : Nat)) (some (.ref b0)) := by
            have := DGet.k (k := Sum.inl ((o1 : Nat) : Int)) hM9
            rw [hv0] at this
            exact this
          refine ⟨_, rfl, .inl ⟨rfl, _, SqL.of hD9⟩, _, rfl, _, rfl, Md, _, rfl, gvd, _, rfl, b0, _, _, _, rfl, rfl, SqL.of (key nb0D hb0), atI_nat (j := j) hu0, _, rfl, c0, d9, _, _, x0, y0, xd, yd, rfl, SqT.of (key nc0D hc0), SqT.of hd9, p0, pD, fun H10 d10 sm10 nd10 hd10 => ?_⟩
          rw [low_plus n0 p0 pD] at hd10
          have hD10 := sm10 _ _ hD9
          have nd10D : d10 ≠ D := ne_of_fresh hD9 nd10
          have nd10M : d10 ≠ Md := ne_of_fresh hM9 nd10
          refine ⟨D, _, _, rfl, rfl, hD10, small1000 (by omega), ?_⟩
          have s810 := s89.trans sm10
          refine ⟨_, _, us ++ [.ref d10], rfl, (sm8.trans s810).put nD, fun b' o' hne h => by rw [upd_ne hne]; exact s810 _ _ (kp8 _ _ hne h), upd_same, ?_⟩
          have gj : (vec outs.length (phi T ins.length tn))[j]? = some (phi T ins.length tn j) := vec_get jl
          rw [st_upd (by simp), List.take_add_one, gj]
          refine paired_snoc (paired_mono (fun _ _ => PtAt.same (st_mono s810)) pp8) ⟨d10, rfl, ?_⟩
          have eS : X0 + (NS + -R) = phi T ins.length tn j := by
            rw [htn, phi_step law plk ol jl, hNS, hX0, hR, hSd, hN]
            omega
          rw [st_get (by simp [nd10D, nd10M]), hd10, eS]
        · rintro σ H8 ⟨w8, w9, us, rfl, sm8, kp8, hD8, pp8⟩
          rw [lev, List.take_of_length_le (by rw [vec_len]; exact Nat.le_refl _)] at pp8
          have hM8 := sm8 _ _ hM7
          have kf8 := sm8 _ _ kf7
          have pu8 := paired_mono (fun _ _ => PuEnt.same (st_mono (L := [Md]) sm8)) pu7
          have pt8 : PtsAt (st [Md] H8) N (.ref D) (vec outs.length (phi T ins.length tn)) := ⟨D, us, rfl, by rw [st_get (by simp [nDM7])]; exact hD8, paired_mono (fun v X ⟨c, e, h⟩ => ⟨c, e, (by
            by_cases h1 : c = D
            · subst h1
              rw [st_in (by simp)] at h
              cases h
            · by_cases h2 : c = Md
              · subst h2
                rw [st_in (by simp)] at h
                cases h
              · rw [st_get (by simp [h1, h2])] at h
                rw [st_get (by simp [h2])]
                exact h)⟩) pp8⟩
          have cl' : ∀ fs' : List Nat, (∀ x ∈ fs, x ∈ fs') → tn ∈ fs' → ∀ b, b < pl + 1 → nxN T b o1 ∈ fs' := fun fs' sub hin b hb => by
            by_cases h : b < pl
            · exact sub _ (cp7 b h)
            · have : b = pl := by omega
              rw [this, ← htn]
              exact hin
          refine ⟨_, rfl, Md, rfl, .inl ⟨_, .inl hM8⟩, _, rfl, _, rfl, kvs, Sum.inl ((tn : Nat) : Int), hM8, rfl, (by rw [pu7.length]; exact small1000 (by omega)), fun v hv => ?_, fun hv => ?_⟩
          · rcases pu_val (t := tn) pu8 with ⟨hno, hval, hany⟩ | ⟨hin, b1, hval, _, _⟩
            · rw [hval] at hv
              cases hv
            · exact ⟨kvs, fs, _, _, _, _, _, _, rfl, sm7.trans sm8, kf8, hM8, pu8, nd7, lt7, z7, oin7, cl7, cl' fs (fun _ h => h) hin⟩
          · rcases pu_val (t := tn) pu8 with ⟨hno, hval, hany⟩ | ⟨hin, b1, hval, _, _⟩
            · rw [put_new hany]
              refine ⟨kvs ++ [(Sum.inl ((tn : Nat) : Int), .ref D)], fs ++ [tn], _, _, _, _, _, _, rfl, (sm7.trans sm8).put nM, by rw [upd_ne nqM]; exact kf8, upd_same, ?_, ?_, ?_, List.mem_append_left _ z7, List.mem_append_left _ oin7, fun j y b h1 h2 h3 => List.mem_append_left _ (cl7 j y b h1 h2 h3), cl' _ (fun _ h => List.mem_append_left _ h) (List.mem_append_right _ (List.mem_singleton.mpr rfl))⟩
              · rw [st_upd (by simp)]
                exact paired_snoc pu8 ⟨D, rfl, H0D', pt8⟩
              · rw [List.nodup_append]
                refine ⟨nd7, by simp, fun a ha b hb e => ?_⟩
                have : b = tn := by simpa using hb
                rw [e, this] at ha
                exact hno ha
              · intro x hx
                rcases List.mem_append.mp hx with h | h
                · exact lt7 x h
                · have : x = tn := by simpa using h
                  rw [this]
                  exact nl
            · rw [hval] at hv
              cases hv
      · rintro σ H7 ⟨kvs, fs, v4, v5, v6, v7, v8, v9, rfl, sm7, kf7, hM7, pu7, nd7, lt7, z7, oin7, cl7, cp7⟩
        refine ⟨kvs, fs, _, _, _, _, _, _, _, rfl, sm7, kf7, hM7, pu7, nd7, lt7, z7, fun j y b h1 h2 h3 => ?_⟩
        by_cases h : j < i'
        · exact cl7 j y b h h2 h3
        · have : j = i' := by omega
          subst this
          rw [ho1] at h2
          cases Option.some.inj h2
          exact cp7 b (by omega)
    · rintro σ H6 ⟨kvs, fs, v3, v4, v5, v6, v7, v8, v9, rfl, sm6, kf6, hM6, pu6, nd6, lt6, z6, cl6⟩
      rw [natV_len] at cl6
      have dv6 := dv1.same sm6
      obtain ⟨vT, hvT, prT⟩ := id dv6.ht
      have lvT := prT.length
      have allf : ∀ x, x < T.length → x ∈ fs := fun x hx => by
        obtain ⟨ia, hia⟩ := List.mem_iff_getElem?.mp (all x hx)
        exact mem0 (a := 0) hia z6 fun j y b h1 h2 h3 => cl6 j y b (by have := (List.getElem?_eq_some_iff.mp hia).1; omega) h2 h3
      refine ⟨_, rfl, m, _, rfl, dv6.gr, _, vT, rfl, .inl (SqL.of hvT), (vT.length : Int), rfl, by omega, by omega, fun D2 nD2 => ?_⟩
      refine lc_range (lo := 0) (n := vT.length) (fun j H' => ∃ (ws : List V) (L : List Prs), Same H6 H' ∧ H' D2 = some (.lst ws) ∧ Paired (RwAt false H6) ws L ∧ L.length = j ∧ ∀ r ∈ L, r.length = outs.length ∧ ∀ p ∈ r, Gp 1200000000000000 p) ⟨[], [], same_upd nD2, upd_same, .nil, rfl, fun r hr => by cases hr⟩ ?_ ?_
      · rintro j H7 hj ⟨ws, L, sm7, hD7, pp7, lL, gL⟩
        have lws := pp7.length
        have jT : j < T.length := by omega
        rcases pu_val (t := j) pu6 with ⟨hno, _, _⟩ | ⟨_, b0, hv0, f0, p0⟩
        · exact absurd (allf j jT) hno
        obtain ⟨b0', vs0, e0, hb0, pb0⟩ := p0.same st_same
        cases e0
        obtain ⟨ia, hia⟩ := List.mem_iff_getElem?.mp (all j jT)
        obtain ⟨ps, pps, lps, gps⟩ := pts_rw (c := 1200000000000000) n0 nb pb0 fun X hX => by
          obtain ⟨j', hj'⟩ := List.getElem?_of_mem hX
          have jl := (List.getElem?_eq_some_iff.mp hj').1
          rw [vec_len] at jl
          rw [vec_get jl] at hj'
          cases Option.some.inj hj'
          have h1 := bd ia j hia j' jl
          have h2 := (List.getElem?_eq_some_iff.mp hia).1
          have h3 : ia * 20000000000000 ≤ 60 * 20000000000000 := Nat.mul_le_mul_right _ (by omega)
          omega
        refine ⟨rfl, ?_⟩
        rw [show (0 + (j : Int)) = ((j : Nat) : Int) by omega]
        refine ⟨_, rfl, _, rfl, Md, _, rfl, (by have := DGet.k (k := Sum.inl ((j : Nat) : Int)) (sm7 _ _ hM6); rw [hv0] at this; exact this), _, hD7, small1000 (by omega), ws ++ [.ref b0], L ++ [ps], sm7.put nD2, upd_same, paired_snoc pp7 ⟨b0, vs0, rfl, hb0, pps⟩, by rw [List.length_append, lL]; rfl, fun r hr => ?_⟩
        rcases List.mem_append.mp hr with h | h
        · exact gL r h
        · have : r = ps := by simpa using h
          rw [this]
          exact ⟨by rw [lps, vec_len], gps⟩
      · rintro H7 ⟨ws, L, sm7, hD7, pp7, lL, gL⟩
        exact Qk H7 D2 L ((sm1.trans sm6).trans sm7) ⟨ws, hD7, paired_mono (fun _ _ => RwAt.same sm7) pp7⟩ (by rw [lL, lvT]) gL
end
end Hl

set_option Elab.async false
set_option linter.all false
set_option maxRecDepth 100000
set_option maxHeartbeats 4000000
namespace Hl
open PySem PySem.Spec PyProof.Rows L2
abbrev sBr : Stmt := topS 40
def rLst (K : PySem.W.Frag) : List V → Hp → VK → Prop := fun xs H Q => ∃ p ys, xs = [.ref p] ∧ (SqL K H p ys ∨ SqT K H p ys) ∧ ∀ l, H l = none → Q (.ref l) (upd H l (.lst ys))
def rTup (K : PySem.W.Frag) : List V → Hp → VK → Prop := fun xs H Q => ∃ p ys, xs = [.ref p] ∧ ((SqL K H p ys ∧ ∀ l, H l = none → Q (.ref l) (upd H l (.tup ys))) ∨ (SqT K H p ys ∧ Q (.ref p) H))
/-! weakly: lists of lists of pairs of ints that are not too great -/
def PrW (c d : Nat) (H : Hp) (u : V) : Prop := ∃ x y : Int, PrAt H u (x, y) ∧ x.natAbs < 2 ^ c ∧ y.natAbs < 2 ^ d
def RwW (c d : Nat) (H : Hp) (v : V) : Prop := ∃ b us, v = .ref b ∧ H b = some (.lst us) ∧ us.length ≤ 3 ∧ ∀ u ∈ us, PrW c d H u
def LsW (c d : Nat) (H : Hp) (q : Addr) (n : Nat) : Prop := ∃ vs, H q = some (.lst vs) ∧ vs.length ≤ n ∧ ∀ v ∈ vs, RwW c d H v
theorem nd_rf {vs : List V} (h : ∀ v ∈ vs, ∃ b, v = .ref b) : Nd (.lst vs) := fun l a z m c e => by
  have e' := HO.lst.inj (show HO.lst vs = .lst [.ref l, .int a, .int z, .int m, .int c] from e)
  obtain ⟨b, hb⟩ := h (.int a) (by rw [e']; simp)
  cases hb
theorem PrW.rf {c d : Nat} {H : Hp} {u : V} (h : PrW c d H u) : ∃ b, u = .ref b := let ⟨x, y, ⟨a, e, _⟩, _⟩ := h; ⟨a, e⟩
theorem RwW.rf {c d : Nat} {H : Hp} {u : V} (h : RwW c d H u) : ∃ b, u = .ref b := let ⟨b, us, e, _⟩ := h; ⟨b, e⟩
theorem PrW.kp {c d : Nat} {H H' : Hp} {u : V} (k : Kp H H') (h : PrW c d H u) : PrW c d H' u := let ⟨x, y, p, b⟩ := h; ⟨x, y, p.kp k, b⟩
theorem PrW.same {c d : Nat} {H H' : Hp} {u : V} (k : Same H H') (h : PrW c d H u) : PrW c d H' u := let ⟨x, y, p, b⟩ := h; ⟨x, y, p.same k, b⟩
theorem RwW.kp {c d : Nat} {H H' : Hp} {u : V} (k : Kp H H') (h : RwW c d H u) : RwW c d H' u := let ⟨b, us, e, hb, l, a⟩ := h; ⟨b, us, e, k.keep _ _ (nd_rf fun u hu => (a u hu).rf) hb, l, fun u hu => (a u hu).kp k⟩
theorem LsW.kp {c d : Nat} {H H' : Hp} {q : Addr} {n : Nat} (k : Kp H H') (h : LsW c d H q n) : LsW c d H' q n := let ⟨vs, hq, l, a⟩ := h; ⟨vs, k.keep _ _ (nd_rf fun u hu => (a u hu).rf) hq, l, fun u hu => (a u hu).kp k⟩
theorem PrW.mono {c d c' d' : Nat} {H : Hp} {u : V} (h1 : c ≤ c') (h2 : d ≤ d') (h : PrW c d H u) : PrW c' d' H u := let ⟨x, y, p, b1, b2⟩ := h; ⟨x, y, p, Nat.lt_of_lt_of_le b1 (Nat.pow_le_pow_right (by decide) h1), Nat.lt_of_lt_of_le b2 (Nat.pow_le_pow_right (by decide) h2)⟩
theorem RwW.mono {c d c' d' : Nat} {H : Hp} {u : V} (h1 : c ≤ c') (h2 : d ≤ d') (h : RwW c d H u) : RwW c' d' H u := let ⟨b, us, e, hb, l, a⟩ := h; ⟨b, us, e, hb, l, fun u hu => (a u hu).mono h1 h2⟩
theorem LsW.mono {c d c' d' : Nat} {H : Hp} {q : Addr} {n n' : Nat} (h1 : c ≤ c') (h2 : d ≤ d') (h3 : n ≤ n') (h : LsW c d H q n) : LsW c' d' H q n' := let ⟨vs, hq, l, a⟩ := h; ⟨vs, hq, by omega, fun u hu => (a u hu).mono h1 h2⟩
theorem prw_all {c d : Nat} {H : Hp} : ∀ {us : List V}, (∀ u ∈ us, PrW c d H u) → ∃ ps : Prs, Paired (PrAt H) us ps ∧ ∀ p ∈ ps, p.1.natAbs < 2 ^ c ∧ p.2.natAbs < 2 ^ d
  | [], _ => ⟨[], .nil, fun p hp => by cases hp⟩
  | u :: us, h => by
    obtain ⟨x, y, p, b⟩ := h u List.mem_cons_self
    obtain ⟨ps, h1, h2⟩ := prw_all fun u hu => h u (List.mem_cons_of_mem _ hu)
    refine ⟨(x, y) :: ps, .cons p h1, fun p hp => ?_⟩
    rcases List.mem_cons.mp hp with rfl | hp
    · exact b
    · exact h2 p hp
theorem rww_all {c d : Nat} {H : Hp} : ∀ {vs : List V}, (∀ v ∈ vs, RwW c d H v) → ∃ L : List Prs, Paired (RwAt false H) vs L ∧ Bd c d L ∧ L3 L
  | [], _ => ⟨[], .nil, (fun r hr => by cases hr), fun r hr => by cases hr⟩
  | v :: vs, h => by
    obtain ⟨b, us, e, hb, l, a⟩ := h v List.mem_cons_self
    obtain ⟨ps, p1, p2⟩ := prw_all a
    obtain ⟨L, h1, h2, h3⟩ := rww_all fun v hv => h v (List.mem_cons_of_mem _ hv)
    have := p1.length
    refine ⟨ps :: L, .cons ⟨b, us, e, hb, p1⟩ h1, fun r hr => ?_, fun r hr => ?_⟩
    · rcases List.mem_cons.mp hr with rfl | hr
      · exact p2
      · exact h2 r hr
    · rcases List.mem_cons.mp hr with rfl | hr
      · omega
      · exact h3 r hr
/-- exactly -/
theorem LsW.ex {c d : Nat} {H : Hp} {q : Addr} {n : Nat} (h : LsW c d H q n) : ∃ L : List Prs, LsF false H q L ∧ Bd c d L ∧ L3 L ∧ L.length ≤ n := let ⟨vs, hq, l, a⟩ := h; by
  obtain ⟨L, h1, h2, h3⟩ := rww_all a
  have := h1.length
  exact ⟨L, ⟨vs, hq, h1⟩, h2, h3, by omega⟩
theorem paired_mem {α β : Type} {R : α → β → Prop} {xs : List α} {ys : List β} (h : Paired R xs ys) {x : α} (hx : x ∈ xs) : ∃ y ∈ ys, R x y := by
  obtain ⟨i, hi⟩ := List.getElem?_of_mem hx
  obtain ⟨y, hy, r⟩ := paired_get h i x hi
  exact ⟨y, List.mem_of_getElem? hy, r⟩
theorem LsF.w {c d : Nat} {H : Hp} {q : Addr} {L : List Prs} {n : Nat} (h : LsF false H q L) (hl : L.length ≤ n) (h3 : L3 L) (hb : Bd c d L) : LsW c d H q n := let ⟨vs, hq, p⟩ := h; by
  refine ⟨vs, hq, by rw [p.length]; exact hl, fun v hv => ?_⟩
  obtain ⟨r, hr, b, us, e, hb', pr⟩ := paired_mem p hv
  refine ⟨b, us, e, hb', by rw [pr.length]; exact h3 r hr, fun u hu => ?_⟩
  obtain ⟨pq, hp, pa⟩ := paired_mem pr hu
  exact ⟨pq.1, pq.2, pa, hb r hr pq hp⟩
/-- rows that are new -/
structure BR (c d : Nat) (H H' : Hp) (R : Addr) (vs : List V) : Prop where
  hR : H' R = some (.lst vs)
  nR : H R = none
  all : ∀ v ∈ vs, ∃ b us, v = .ref b ∧ H b = none ∧ b ≠ R ∧ H' b = some (.lst us) ∧ us.length ≤ 3 ∧ ∀ u ∈ us, PrW c d H' u
theorem BR.kp {c d : Nat} {H H1 H2 : Hp} {R : Addr} {vs : List V} (k : Kp H1 H2) (h : BR c d H H1 R vs) : BR c d H H2 R vs := by
  refine ⟨k.keep _ _ (nd_rf fun v hv => ?_) h.hR, h.nR, fun v hv => ?_⟩
  · obtain ⟨b, us, e, _⟩ := h.all v hv
    exact ⟨b, e⟩
  · obtain ⟨b, us, e, n, ne, hb, l, a⟩ := h.all v hv
    exact ⟨b, us, e, n, ne, k.keep _ _ (nd_rf fun u hu => (a u hu).rf) hb, l, fun u hu => (a u hu).kp k⟩
theorem PrW.put {c d : Nat} {H : Hp} {u : V} {b : Addr} {o : HO} {us : List V} (hb : H b = some (.lst us)) (h : PrW c d H u) : PrW c d (upd H b o) u := by
  obtain ⟨x, y, ⟨a, e, ha⟩, b1⟩ := h
  refine ⟨x, y, ⟨a, e, ?_⟩, b1⟩
  rw [upd_ne (fun z => by rw [z, hb] at ha; cases ha)]
  exact ha
theorem BR.w {c d : Nat} {H H' : Hp} {R : Addr} {vs : List V} {n : Nat} (h : BR c d H H' R vs) (l : vs.length ≤ n) : LsW c d H' R n := ⟨vs, h.hR, l, fun v hv => let ⟨b, us, e, _, _, hb, l, a⟩ := h.all v hv; ⟨b, us, e, hb, l, a⟩⟩
theorem prD_lay (p : Int × Int) : (prD p).canLay0 = true := by simp [prD, PyData.canLay0, PyData.canLayAll0]
theorem prDs_lay : ∀ ps : Prs, PyData.canLayAll0 (ps.map prD) = true
  | [] => rfl
  | p :: ps => by
    show ((prD p).canLay0 && PyData.canLayAll0 (ps.map prD)) = true
    rw [prD_lay, prDs_lay ps]
    rfl
theorem prDs_depth (ps : Prs) : PyData.depthAll (ps.map prD) ≤ 1 := depthAll_map fun p _ => by
  show PyData.depth (.tuple [.int p.1, .int p.2]) ≤ 1
  exact Nat.le_refl _
theorem rw_shaped (ps : Prs) : SeqAt.shaped (.list (ps.map prD)) = true := by
  have h := prDs_depth ps
  have h2 : (PyData.list (ps.map prD)).depth ≤ 64 := by
    show PyData.depthAll (ps.map prD) + 1 ≤ 64
    omega
  show ((PyData.list (ps.map prD)).canLay0 && decide ((PyData.list (ps.map prD)).depth ≤ 64)) = true
  rw [Bool.and_eq_true]
  exact ⟨prDs_lay ps, decide_eq_true h2⟩
theorem cutTake (xs : List V) (i : Nat) : cutV xs none (some (i : Int)) = xs.take i := by
  unfold cutV
  rw [HT.sIx_none, HT.sIx_nat, List.drop_zero, Nat.sub_zero]
  rcases Nat.le_total i xs.length with h | h
  · rw [Nat.min_eq_left h]
  · rw [Nat.min_eq_right h, List.take_length, List.take_of_length_le h]
theorem cutDropN (xs : List V) (i : Nat) : cutV xs (some (i : Int)) none = xs.drop i := by
  unfold cutV
  rw [HT.sIx_none, HT.sIx_nat]
  rcases Nat.le_total i xs.length with h | h
  · rw [Nat.min_eq_left h]
    exact List.take_of_length_le (by rw [List.length_drop]; exact Nat.le_refl _)
  · rw [Nat.min_eq_right h, List.drop_length, List.drop_of_length_le h, List.take_nil]
section
variable {P : Program} {w : World} {K : PySem.W.Frag} {mg : Str → Option Value} {base : Heap}
/-! _law_bent_lists -/
def spBr : Sp := fun vs H Q _ => ∃ (p l q : Addr) (c d n : Nat) (vs0 : List V), vs = [.ref p, .ref q] ∧ Deal H p l ∧ H q = some (.lst vs0) ∧ 0 < vs0.length ∧ vs0.length ≤ n ∧ n ≤ 100 ∧ c ≤ 60 ∧ d ≤ 60 ∧ (∀ v ∈ vs0, RwW c d H v) ∧
  ∀ (H' : Hp) (q' : Addr), Kp H H' → Deal H' p l → LsW (c + 2) (d + 2) H' q' (n + 1) → Q (.ref q') H'
abbrev nmBr : List Str := ["_law_deal_here", "_law_lists", "_law_at", "_law_way", "_law_spot", "_law_over", "_law_under", "_law_odd", "_law_row"]
theorem scBr : FnScope nmBr ["_law_deal_here", "_law_lists"] (defScope sBr) := ⟨rfl, rfl, rfl, by decide +kernel, rfl, by decide +kernel, by decide +kernel⟩
theorem ok_br {f fP fO : Addr} {fd fdP fdO : FuncData} {k : Nat} (F : Fun K "_law_bent_lists" "_law_bent_lists" sBr f fd) (B : Bi mg) (Pk : Has P w K mg base k "_law_pick" ["_law_deal_here", "_law_many"] spPick fP fdP) (Of : Has P w K mg base k "_law_of" ["_law_deal_here", "_law_some"] spOf fO fdO) :
    FnOk P w K mg base CX0 (k + 1) f fd ["_law_deal_here", "_law_lists"] spBr := by
  refine F.ok scBr (fun vs H Q E h => ?_) (fun cdv A outer s H vs Q E hr h => ?_)
  · obtain ⟨p, l, q, c, d, n, vs0, rfl, _⟩ := h
    rfl
  · obtain ⟨p, l, q, c, d, n, vs0, rfl, dl, hq, l0, ln, n100, c60, d60, rw0, Qk⟩ := h
    refine ⟨_, (pss_cons (ps_setLc (i := 1) (own := [("_law_row", 8)]) (g := gName 8) (tt := tYes) rfl scBr.nd rfl rfl (sw_true rfl rfl rfl (by decide +kernel)) (pi_list (pv 1)) (blkOk_by (own := [("_law_row", 8)]) (N := nmBr) (sc := defScope sBr) (by decide +kernel)) (fun _ _ _ _ _ => (pg_name (i := 8) scBr.nd rfl (Or.inl rfl))) (fun _ _ _ _ _ => pts_nil) (fun _ _ _ _ _ => (pe_callTy (r := rLst K) call_list_of (by rfl) B.lst (by decide +kernel) (pa_cons (pv 8) pa_nil))))
        (pss_cons (ps_set (i := 2) scBr.nd rfl (.inl rfl) (pe_call Pk.G hr (by rfl) Pk.g Pk.kp Pk.b .nil pass0 (pa_cons (pv 0) (pa_cons (pe_callB call_len_seq (by rfl) B.len PySem.boot_len (pa_cons (pv 1) pa_nil)) pa_nil))))
        (pss_cons (ps_set (i := 3) scBr.nd rfl (.inl rfl) (pe_call Pk.G hr (by rfl) Pk.g Pk.kp Pk.b .nil pass0 (pa_cons (pv 0) (pa_cons pe_int pa_nil))))
        (pss_cons (ps_if (pt_cmpR op_eq (pv 3) pe_int (nomark _)) (pss_one (ps_ret (pe_op op_cat (pe_slice sl_list (pv 1) po_none (po_some (pv 2))) (pe_slice sl_list (pv 1) (po_some (pe_op op_add (pv 2) pe_int)) po_none)))) pss_nil)
        (pss_cons (ps_if (pt_cmpR op_eq (pv 3) pe_int (nomark _)) (pss_one (ps_ret (pe_op op_cat (pv 1) (pe_lst (pa_cons (pe_ix (r := rIxL K) ix_list (pv 1) (pv 2) (fun _ _ => rfl)) pa_nil))))) pss_nil)
        (pss_cons (ps_if (pt_cmpR (op_eqD hr.units) (pe_ix (r := rIxL K) ix_list (pv 1) (pv 2) (fun _ _ => rfl)) (pe_lst pa_nil) (nomark _)) (pss_one (ps_ret (pv 1))) pss_nil)
        (pss_cons (ps_set (i := 4) scBr.nd rfl (.inl rfl) (pe_call Pk.G hr (by rfl) Pk.g Pk.kp Pk.b .nil pass0 (pa_cons (pv 0) (pa_cons (pe_callB call_len_seq (by rfl) B.len PySem.boot_len (pa_cons (pe_ix (r := rIxL K) ix_list (pv 1) (pv 2) (fun _ _ => rfl)) pa_nil)) pa_nil))))
        (pss_cons (ps_asg (pe_ix (r := rIxL K) ix_list (pe_ix (r := rIxL K) ix_list (pv 1) (pv 2) (fun _ _ => rfl)) (pv 4) (fun _ _ => rfl)) (pg_tup rfl (pgs_cons (pg_name (i := 5) scBr.nd rfl (.inl rfl)) (pgs_cons (pg_name (i := 6) scBr.nd rfl (.inl rfl)) pgs_nil))))
        (pss_cons (ps_set (i := 7) scBr.nd rfl (.inl rfl) (pe_lst (pa_cons (pe_tup (pa_cons (pe_op op_add (pv 5) pe_int) (pa_cons (pv 6) pa_nil))) (pa_cons (pe_tup (pa_cons (pv 5) (pa_cons (pe_op op_sub pe_int (pv 6)) pa_nil))) (pa_cons (pe_tup (pa_cons (pe_op op_mul (pv 5) pe_int) (pa_cons (pe_op op_mul (pv 6) pe_int) pa_nil))) (pa_cons (pe_tup (pa_cons (pv 5) (pa_cons pe_int pa_nil))) (pa_cons (pe_tup (pa_cons (pe_op op_sub pe_int (pv 5)) (pa_cons (pv 6) pa_nil))) pa_nil)))))))
        (pss_cons (ps_if (pt_cmpR op_eq (pv 3) pe_int (nomark _)) (pss_one (ps_asg (pe_slice sl_list (pe_ix (r := rIxL K) ix_list (pv 1) (pv 2) (fun _ _ => rfl)) (po_some pe_int) po_none) (pg_sub (pv 1) (pv 2) set_list))) (pss_one (ps_asg (pe_call Of.G hr (by rfl) Of.g Of.kp Of.b .nil pass0 (pa_cons (pv 0) (pa_cons (pv 7) pa_nil))) (pg_sub (pe_ix (r := rIxL K) ix_list (pv 1) (pv 2) (fun _ _ => rfl)) (pv 4) set_list))))
        (pss_one (ps_ret (pv 1))))))))))))), ?_⟩
    have ndq : Nd (.lst vs0) := nd_rf fun v hv => (rw0 v hv).rf
    refine ⟨_, rfl, q, rfl, ⟨_, SqL.of hq⟩, fun R nR => ?_⟩
    refine lc_list (K := K) (a := q) (xs := vs0) (fun j H' => ∃ us : List V, Same H H' ∧ H' R = some (.lst us) ∧ us.length = j ∧ ∀ v ∈ us, ∃ b ws, v = .ref b ∧ H b = none ∧ b ≠ R ∧ H' b = some (.lst ws) ∧ ws.length ≤ 3 ∧ ∀ u ∈ ws, PrW c d H u) ⟨[], same_upd nR, upd_same, rfl, fun v hv => by cases hv⟩ (fun j H' _ ⟨_, sm, _⟩ => SqL.of (sm _ _ hq)) ?_ ?_
    · rintro j x H1 hx ⟨us, sm, hR, lu, au⟩
      obtain ⟨b, ws, rfl, hb, lw, aw⟩ := rw0 x (List.mem_of_getElem? hx)
      refine ⟨rfl, ?_⟩
      refine ⟨_, rfl, b, ws, rfl, .inl (SqL.of (sm _ _ hb)), fun b' nb' => ?_⟩
      have sb := same_upd (o := .lst ws) nb'
      have nbR : b' ≠ R := ne_of_fresh hR nb'
      have jl := (List.getElem?_eq_some_iff.mp hx).1
      refine ⟨_, sb _ _ hR, small1000 (by omega), us ++ [.ref b'], (sm.trans sb).put nR, upd_same, by rw [List.length_append, lu]; rfl, fun v hv => ?_⟩
      rcases List.mem_append.mp hv with h | h
      · obtain ⟨b2, ws2, e, n2, ne2, h2, l2, a2⟩ := au v h
        exact ⟨b2, ws2, e, n2, ne2, by rw [upd_ne ne2]; exact sb _ _ h2, l2, a2⟩
      · have : v = .ref b' := by simpa using h
        exact ⟨b', ws, this, sm.free nb', nbR, by rw [upd_ne nbR, upd_same], lw, aw⟩
    rintro H1 ⟨vs, sm1, hR1, lv, av⟩
    have br1 : BR c d H H1 R vs := ⟨hR1, nR, fun v hv => let ⟨b, ws, e, n1, ne, hb, l, a⟩ := av v hv; ⟨b, ws, e, n1, ne, hb, l, fun u hu => (a u hu).same sm1⟩⟩
    have dl1 := dl.same sm1
    clear av hR1
    refine ⟨_, rfl, _, rfl, R, vs, rfl, .inl (SqL.of br1.hR), p, l, (vs.length : Int), rfl, dl1, by omega, lg (b := 10) (by omega) (by decide) (by decide), fun H2 r2 k2 dl2 r20 r21 => ?_⟩
    obtain ⟨at_, rfl⟩ := Int.eq_ofNat_of_zero_le r20
    have atl : at_ < vs.length := by omega
    refine ⟨_, rfl, p, l, 6, rfl, dl2, by decide, lg (b := 11) (by decide) (by decide) (by decide), fun H3 wy k3 dl3 r30 r31 => ?_⟩
    have br3 := (br1.kp k2).kp k3
    have k13 := (Kp.of sm1).trans (k2.trans k3)
    have gat : vs[at_]? = some vs[at_] := List.getElem?_eq_getElem atl
    obtain ⟨b, us, eb, nb, neR, hb, lu, au⟩ := br3.all vs[at_] (List.getElem_mem atl)
    rw [eb] at gat
    have w3 : ∀ v ∈ vs, RwW c d H3 v := fun v hv => let ⟨b, us, e, _, _, hb, l, a⟩ := br3.all v hv; ⟨b, us, e, hb, l, a⟩
    refine ⟨_, rfl, rfl, _, rfl, ite2 (fun e => ?_) (fun e => ?_)⟩
    · refine ⟨_, rfl, _, rfl, _, rfl, R, vs, rfl, SqL.of br3.hR, fun g1 n1 => ?_⟩
      rw [cutTake]
      have s1 := same_upd (o := .lst (vs.take at_)) n1
      refine ⟨_, rfl, _, rfl, _, _, rfl, rfl, _, rfl, R, vs, rfl, SqL.of (s1 _ _ br3.hR), fun g2 n2 => ?_⟩
      rw [show ((at_ : Nat) : Int) + 1 = ((at_ + 1 : Nat) : Int) by omega, cutDropN]
      have s2 := same_upd (o := .lst (vs.drop (at_ + 1))) n2
      refine ⟨g1, g2, _, _, rfl, rfl, s2 _ _ upd_same, upd_same, Nat.le_of_lt (small1000 (by rw [List.length_take, List.length_drop]; omega)), fun g3 n3 => ?_⟩
      have s3 := same_upd (o := .lst (vs.take at_ ++ vs.drop (at_ + 1))) n3
      have s13 := (s1.trans s2).trans s3
      refine Qk _ g3 (k13.trans (Kp.of s13)) (dl3.same s13) ⟨_, upd_same, by rw [List.length_append, List.length_take, List.length_drop]; omega, fun v hv => ((w3 v ?_).mono (c' := c + 2) (d' := d + 2) (by omega) (by omega)).kp (Kp.of s13)⟩
      rcases List.mem_append.mp hv with h | h
      · exact List.mem_of_mem_take h
      · exact List.mem_of_mem_drop h
    refine ⟨_, rfl, rfl, _, rfl, ite2 (fun e => ?_) (fun e => ?_)⟩
    · refine ⟨_, rfl, _, rfl, _, rfl, R, _, _, _, rfl, rfl, SqL.of br3.hR, atI_nat (j := at_) gat, (by show 1 ≤ sizeLine; decide), fun z nz => ?_⟩
      have sz := same_upd (o := .lst [.ref b]) nz
      refine ⟨R, z, _, _, rfl, rfl, sz _ _ br3.hR, upd_same, Nat.le_of_lt (small1000 (by show vs.length + 1 ≤ _; omega)), fun g3 n3 => ?_⟩
      have s3 := same_upd (o := .lst (vs ++ [.ref b])) n3
      have s13 := sz.trans s3
      refine Qk _ g3 (k13.trans (Kp.of s13)) (dl3.same s13) ⟨_, upd_same, by rw [List.length_append, List.length_singleton]; omega, fun v hv => ?_⟩
      rcases List.mem_append.mp hv with h | h
      · exact ((w3 v h).mono (c' := c + 2) (d' := d + 2) (by omega) (by omega)).kp (Kp.of s13)
      · have : v = .ref b := by simpa using h
        rw [this]
        exact ((w3 _ (List.mem_of_getElem? gat)).mono (c' := c + 2) (d' := d + 2) (by omega) (by omega)).kp (Kp.of s13)
    obtain ⟨ps, pp, _⟩ := prw_all au
    refine ⟨_, rfl, _, rfl, R, _, _, _, rfl, rfl, SqL.of br3.hR, atI_nat (j := at_) gat, Nat.zero_le _, fun z nz => ?_⟩
    have sz := same_upd (o := .lst []) nz
    have ppz := paired_mono (fun _ _ => PrAt.same sz) pp
    refine ⟨.list (ps.map prD), .list [], .lst (SqL.of (sz _ _ hb)) (prs_dp ppz), .lst (SqL.of upd_same) .nil, rw_shaped ps, rw_shaped [], _, rfl, ?_⟩
    have brz := br3.kp (Kp.of sz)
    have dlz := dl3.same sz
    have kz := k13.trans (Kp.of sz)
    have hbz := sz _ _ hb
    have auz : ∀ u ∈ us, PrW c d (upd H3 z (.lst [])) u := fun u hu => (au u hu).same sz
    generalize (upd H3 z (.lst [])) = H4 at *
    have lps := pp.length
    refine ite2 (fun e => ?_) (fun e => ?_)
    · exact ⟨_, rfl, Qk _ R kz dlz ((brz.w (n := n) (by omega)).mono (c' := c + 2) (d' := d + 2) (by omega) (by omega) (by omega))⟩
    have us0 : 0 < us.length := by
      cases ps with
      | nil => exact absurd rfl e
      | cons p ps =>
        rw [List.length_cons] at lps
        omega
    refine ⟨_, rfl, _, rfl, _, rfl, R, _, _, _, rfl, rfl, SqL.of brz.hR, atI_nat (j := at_) gat, b, us, rfl, .inl (SqL.of hbz), p, l, (us.length : Int), rfl, dlz, by omega, lg (b := 10) (by omega) (by decide) (by decide), fun H5 r5 k5 dl5 r50 r51 => ?_⟩
    obtain ⟨sp, rfl⟩ := Int.eq_ofNat_of_zero_le r50
    have spl : sp < us.length := by omega
    have br5 := brz.kp k5
    have k05 := kz.trans k5
    have hb5 := k5.keep _ _ (nd_rf fun u hu => (auz u hu).rf) hbz
    have au5 : ∀ u ∈ us, PrW c d H5 u := fun u hu => (auz u hu).kp k5
    have gsp : us[sp]? = some us[sp] := List.getElem?_eq_getElem spl
    obtain ⟨x, y, ⟨cc, ec, hc⟩, bx, by'⟩ := au5 us[sp] (List.getElem_mem spl)
    rw [ec] at gsp
    refine ⟨_, rfl, _, rfl, R, _, _, _, rfl, rfl, SqL.of br5.hR, atI_nat (j := at_) gat, _, rfl, b, _, _, _, rfl, rfl, SqL.of hb5, atI_nat (j := sp) gsp, cc, _, rfl, SqT.of hc, rfl, _, _, rfl, _, _, rfl, rfl, ?_⟩
    have c2 : (2 : Nat) ^ (c + 2) = 4 * 2 ^ c := by rw [Nat.pow_add]; omega
    have d2 : (2 : Nat) ^ (d + 2) = 4 * 2 ^ d := by rw [Nat.pow_add]; omega
    have pc : 0 < (2 : Nat) ^ c := Nat.pow_pos (by decide)
    have pd : 0 < (2 : Nat) ^ d := Nat.pow_pos (by decide)
    have pc6 : (2 : Nat) ^ c ≤ 2 ^ 60 := Nat.pow_le_pow_right (by decide) c60
    have pd6 : (2 : Nat) ^ d ≤ 2 ^ 60 := Nat.pow_le_pow_right (by decide) d60
    have e60 : (2 : Nat) ^ 60 = 1152921504606846976 := by decide
    have e64 : (2 : Int) ^ 64 = 18446744073709551616 := by decide
    refine ⟨_, rfl, _, _, rfl, rfl, _, rfl, (by show 2 ≤ sizeLine; decide), fun t1 m1 => ?_⟩
    have z1 := same_upd (o := .tup [.int (x + 1), .int y]) m1
    refine ⟨_, rfl, _, rfl, _, _, rfl, rfl, (by show 2 ≤ sizeLine; decide), fun t2 m2 => ?_⟩
    have z2 := same_upd (o := .tup [.int x, .int (0 - y)]) m2
    refine ⟨_, rfl, _, _, rfl, rfl, .inl ⟨by omega, by omega⟩, _, rfl, _, _, rfl, rfl, .inl ⟨by omega, by omega⟩, (by show 2 ≤ sizeLine; decide), fun t3 m3 => ?_⟩
    have z3 := same_upd (o := .tup [.int (x * 3), .int (y * 3)]) m3
    refine ⟨_, rfl, (by show 2 ≤ sizeLine; decide), fun t4 m4 => ?_⟩
    have z4 := same_upd (o := .tup [.int x, .int 0]) m4
    refine ⟨_, rfl, _, _, rfl, rfl, _, rfl, (by show 2 ≤ sizeLine; decide), fun t5 m5 => ?_⟩
    have z5 := same_upd (o := .tup [.int (0 - x), .int y]) m5
    refine ⟨(by show 5 ≤ sizeLine; decide), fun od m6 => ?_⟩
    have z6 := same_upd (o := .lst [.ref t1, .ref t2, .ref t3, .ref t4, .ref t5]) m6
    have y5 := z5.trans z6
    have y4 := z4.trans y5
    have y3 := z3.trans y4
    have y2 := z2.trans y3
    have y1 := z1.trans y2
    have odd : ∀ u ∈ ([.ref t1, .ref t2, .ref t3, .ref t4, .ref t5] : List V), PrW (c + 2) (d + 2) (upd (upd (upd (upd (upd (upd H5 t1 (.tup [.int (x + 1), .int y])) t2 (.tup [.int x, .int (0 - y)])) t3 (.tup [.int (x * 3), .int (y * 3)])) t4 (.tup [.int x, .int 0])) t5 (.tup [.int (0 - x), .int y])) od (.lst [.ref t1, .ref t2, .ref t3, .ref t4, .ref t5])) u := fun u hu => by
      simp only [List.mem_cons, List.not_mem_nil, or_false] at hu
      rcases hu with rfl | rfl | rfl | rfl | rfl
      · exact ⟨x + 1, y, ⟨t1, rfl, y2 _ _ upd_same⟩, by omega, by omega⟩
      · exact ⟨x, 0 - y, ⟨t2, rfl, y3 _ _ upd_same⟩, by omega, by omega⟩
      · exact ⟨x * 3, y * 3, ⟨t3, rfl, y4 _ _ upd_same⟩, by omega, by omega⟩
      · exact ⟨x, 0, ⟨t4, rfl, y5 _ _ upd_same⟩, by omega, by omega⟩
      · exact ⟨0 - x, y, ⟨t5, rfl, z6 _ _ upd_same⟩, by omega, by omega⟩
    have hod : (upd (upd (upd (upd (upd (upd H5 t1 (.tup [.int (x + 1), .int y])) t2 (.tup [.int x, .int (0 - y)])) t3 (.tup [.int (x * 3), .int (y * 3)])) t4 (.tup [.int x, .int 0])) t5 (.tup [.int (0 - x), .int y])) od (.lst [.ref t1, .ref t2, .ref t3, .ref t4, .ref t5])) od = some (.lst [.ref t1, .ref t2, .ref t3, .ref t4, .ref t5]) := upd_same
    have br6 := br5.kp (Kp.of y1)
    have k06 := k05.trans (Kp.of y1)
    have dl6 := dl5.same y1
    have hb6 := y1 _ _ hb5
    have au6 := fun u hu => (au5 u hu).same y1
    generalize (upd (upd (upd (upd (upd (upd H5 t1 (.tup [.int (x + 1), .int y])) t2 (.tup [.int x, .int (0 - y)])) t3 (.tup [.int (x * 3), .int (y * 3)])) t4 (.tup [.int x, .int 0])) t5 (.tup [.int (0 - x), .int y])) od (.lst [.ref t1, .ref t2, .ref t3, .ref t4, .ref t5])) = H6 at *
    refine ⟨_, rfl, rfl, _, rfl, ite2 (fun e => ?_) (fun e => ?_)⟩
    · refine ⟨_, rfl, _, rfl, R, _, _, _, rfl, rfl, SqL.of br6.hR, atI_nat (j := at_) gat, 1, rfl, b, us, rfl, SqL.of hb6, fun g1 n1 => ?_⟩
      rw [show (1 : Int) = ((1 : Nat) : Int) from rfl, cutDropN]
      have s1 := same_upd (o := .lst (us.drop 1)) n1
      refine ⟨_, rfl, _, rfl, R, _, _, at_, rfl, rfl, s1 _ _ br6.hR, Evl.ixN_nat atl, ?_⟩
      have k07 := k06.trans (Kp.of s1)
      have br7 := br6.kp (Kp.of s1)
      refine ⟨_, rfl, Qk _ R (k07.put nR) ((dl6.same s1).put (dl.ne nR) (dl.nl nR)) ⟨_, upd_same, by rw [List.length_set]; omega, fun v hv => ?_⟩⟩
      rcases List.mem_or_eq_of_mem_set hv with h | h
      · obtain ⟨b2, us2, e2, n2, ne2, h2, l2, a2⟩ := br7.all v h
        exact ⟨b2, us2, e2, by rw [upd_ne ne2]; exact h2, l2, fun u hu => ((a2 u hu).mono (c' := c + 2) (d' := d + 2) (by omega) (by omega)).put br7.hR⟩
      · have ng : g1 ≠ R := ne_of_fresh br6.hR n1
        exact ⟨g1, us.drop 1, h, by rw [upd_ne ng, upd_same], by rw [List.length_drop]; omega, fun u hu => (((au6 u (List.mem_of_mem_drop hu)).same s1).mono (c' := c + 2) (d' := d + 2) (by omega) (by omega)).put br7.hR⟩
    · refine ⟨_, rfl, _, rfl, p, l, od, _, rfl, dl6, hod, nd_rf (fun u hu => (odd u hu).rf), (by show 0 < 5; decide), (by show 5 ≤ 1000; decide), fun H7 u7 hu7 k7 dl7 => ?_⟩
      have br7 := br6.kp k7
      have hb7 := k7.keep _ _ (nd_rf fun u hu => (au6 u hu).rf) hb6
      refine ⟨_, rfl, _, rfl, R, _, _, _, rfl, rfl, SqL.of br7.hR, atI_nat (j := at_) gat, _, rfl, b, _, _, sp, rfl, rfl, hb7, Evl.ixN_nat spl, ?_⟩
      refine ⟨_, rfl, Qk _ R ((k06.trans k7).put nb) (dl7.put (dl.ne nb) (dl.nl nb)) ⟨vs, by rw [upd_ne neR.symm]; exact br7.hR, by omega, fun v hv => ?_⟩⟩
      have w7 := (odd u7 hu7).kp k7
      obtain ⟨b2, us2, e2, n2, ne2, h2, l2, a2⟩ := br7.all v hv
      by_cases hbb : b2 = b
      · subst hbb
        refine ⟨b2, _, e2, upd_same, by rw [List.length_set]; exact lu, fun u hu => ?_⟩
        rcases List.mem_or_eq_of_mem_set hu with h | h
        · exact (((au6 u h).kp k7).mono (c' := c + 2) (d' := d + 2) (by omega) (by omega)).put hb7
        · rw [h]
          exact w7.put hb7
      · exact ⟨b2, us2, e2, by rw [upd_ne hbb]; exact h2, l2, fun u hu => ((a2 u hu).mono (c' := c + 2) (d' := d + 2) (by omega) (by omega)).put hb7⟩
end
end Hl

set_option Elab.async false
set_option linter.all false
set_option maxRecDepth 100000
set_option maxHeartbeats 4000000
namespace Hl
open PySem PySem.Spec PyProof.Rows L2
abbrev sShd : Stmt := topS 10
abbrev sUh : Stmt := topS 12
def rLenK (K : PySem.W.Frag) : List V → Hp → VK → Prop := fun xs H Q => ∃ p ys, xs = [.ref p] ∧ (SqL K H p ys ∨ SqT K H p ys) ∧ Q (.int ys.length) H
/-! loops of comprehensions, over any iterator -/
theorem w_any {J : It} {n : Nat} {B : V → Hp → (Hp → Prop) → Prop} {H0 : Hp} {Qd : Hp → Prop} (Pv : Nat → Hp → Prop) (h0 : Pv 0 H0) (hs : ∀ i H, i < n → Pv i H → J.go i H ∧ ∀ x H', J.yld i H x H' → B x H' (Pv (i + 1))) (hd : ∀ H, Pv n H → J.stop n H ∧ Qd H) :
    ∃ W : Nat → Nat → Hp → Prop, (∃ m, W 0 m H0) ∧ ∀ i m H, W i m H → (J.stop i H ∧ Qd H) ∨ (J.go i H ∧ ∃ Nx : Hp → Prop, (∀ H', Nx H' → ∃ m', m' < m ∧ W (i + 1) m' H') ∧ ∀ x H', J.yld i H x H' → B x H' Nx) := by
  refine ⟨fun i m H => m = n - i ∧ i ≤ n ∧ Pv i H, ⟨n, rfl, Nat.zero_le _, h0⟩, ?_⟩
  rintro i m H ⟨rfl, hi, p⟩
  by_cases hlt : i < n
  · obtain ⟨g, f⟩ := hs i H hlt p
    exact .inr ⟨g, Pv (i + 1), fun H' p' => ⟨n - (i + 1), by omega, rfl, hlt, p'⟩, f⟩
  · have e : i = n := by omega
    subst e
    exact .inl (hd H p)
theorem w_lst {K : PySem.W.Frag} {a : Addr} {xs : List V} {B : V → Hp → (Hp → Prop) → Prop} {H0 : Hp} {Qd : Hp → Prop} (Pv : Nat → Hp → Prop) (h0 : Pv 0 H0) (hl : ∀ i H, Pv i H → SqL K H a xs) (hs : ∀ j x H, xs[j]? = some x → Pv j H → B x H (Pv (j + 1))) (hd : ∀ H, Pv xs.length H → Qd H) :
    ∃ W : Nat → Nat → Hp → Prop, (∃ m, W 0 m H0) ∧ ∀ j k H, W j k H → ((Itl K a).stop j H ∧ Qd H) ∨ ((Itl K a).go j H ∧ ∃ Nx : Hp → Prop, (∀ H', Nx H' → ∃ k', k' < k ∧ W (j + 1) k' H') ∧ ∀ x H', (Itl K a).yld j H x H' → B x H' Nx) :=
  w_any (n := xs.length) Pv h0 (fun i H hlt p => ⟨⟨xs, xs[i], hl i H p, by simp [hlt]⟩, fun x H' ⟨e, y⟩ => by subst e; exact hs i x _ (y xs (hl i _ p)) p⟩) fun H p => ⟨⟨xs, hl _ H p, Nat.le_refl _⟩, hd H p⟩
theorem w_tup {K : PySem.W.Frag} {a : Addr} {xs : List V} {B : V → Hp → (Hp → Prop) → Prop} {H0 : Hp} {Qd : Hp → Prop} (Pv : Nat → Hp → Prop) (h0 : Pv 0 H0) (hl : ∀ i H, Pv i H → SqT K H a xs) (hs : ∀ j x H, xs[j]? = some x → Pv j H → B x H (Pv (j + 1))) (hd : ∀ H, Pv xs.length H → Qd H) :
    ∃ W : Nat → Nat → Hp → Prop, (∃ m, W 0 m H0) ∧ ∀ j k H, W j k H → ((Itt K a).stop j H ∧ Qd H) ∨ ((Itt K a).go j H ∧ ∃ Nx : Hp → Prop, (∀ H', Nx H' → ∃ k', k' < k ∧ W (j + 1) k' H') ∧ ∀ x H', (Itt K a).yld j H x H' → B x H' Nx) :=
  w_any (n := xs.length) Pv h0 (fun i H hlt p => ⟨⟨xs, xs[i], hl i H p, by simp [hlt]⟩, fun x H' ⟨e, y⟩ => by subst e; exact hs i x _ (y xs (hl i _ p)) p⟩) fun H p => ⟨⟨xs, hl _ H p, Nat.le_refl _⟩, hd H p⟩
theorem w_zip {K : PySem.W.Frag} {a b : Addr} {xs ys : List V} {B : V → Hp → (Hp → Prop) → Prop} {H0 : Hp} {Qd : Hp → Prop} (hlen : xs.length = ys.length) (Pv : Nat → Hp → Prop) (h0 : Pv 0 H0) (hl : ∀ i H, Pv i H → SqL K H a xs ∧ SqL K H b ys)
    (hs : ∀ j x y T H, xs[j]? = some x → ys[j]? = some y → Pv j H → H T = none → B (.ref T) (upd H T (.tup [x, y])) (Pv (j + 1))) (hd : ∀ H, Pv xs.length H → Qd H) :
    ∃ W : Nat → Nat → Hp → Prop, (∃ m, W 0 m H0) ∧ ∀ j k H, W j k H → ((Itz K a b).stop j H ∧ Qd H) ∨ ((Itz K a b).go j H ∧ ∃ Nx : Hp → Prop, (∀ H', Nx H' → ∃ k', k' < k ∧ W (j + 1) k' H') ∧ ∀ x H', (Itz K a b).yld j H x H' → B x H' Nx) :=
  w_any (n := xs.length) Pv h0 (fun i H hlt p => ⟨⟨xs, ys, xs[i], ys[i]'(by omega), (hl i H p).1, (hl i H p).2, by simp [hlt], by simp⟩, fun v H' ⟨T, x, y, e1, nT, e2, f1, f2⟩ => by
    subst e1 e2
    exact hs i x y T H (f1 _ (hl i _ p).1) (f2 _ (hl i _ p).2) p nT⟩) fun H p => ⟨⟨xs, ys, (hl _ H p).1, (hl _ H p).2, .inl (Nat.le_refl _)⟩, hd H p⟩
theorem w_enum {K : PySem.W.Frag} {a : Addr} {xs : List V} {B : V → Hp → (Hp → Prop) → Prop} {H0 : Hp} {Qd : Hp → Prop} (Pv : Nat → Hp → Prop) (h0 : Pv 0 H0) (hl : ∀ i H, Pv i H → SqL K H a xs)
    (hs : ∀ j x T H, xs[j]? = some x → Pv j H → H T = none → B (.ref T) (upd H T (.tup [.int (j : Nat), x])) (Pv (j + 1))) (hd : ∀ H, Pv xs.length H → Qd H) :
    ∃ W : Nat → Nat → Hp → Prop, (∃ m, W 0 m H0) ∧ ∀ j k H, W j k H → ((Ite K a).stop j H ∧ Qd H) ∨ ((Ite K a).go j H ∧ ∃ Nx : Hp → Prop, (∀ H', Nx H' → ∃ k', k' < k ∧ W (j + 1) k' H') ∧ ∀ x H', (Ite K a).yld j H x H' → B x H' Nx) :=
  w_any (n := xs.length) Pv h0 (fun i H hlt p => ⟨⟨xs, xs[i], hl i H p, by simp [hlt]⟩, fun v H' ⟨T, x, e1, nT, e2, f1⟩ => by
    subst e1 e2
    exact hs i x T H (f1 _ (hl i _ p)) p nT⟩) fun H p => ⟨⟨xs, hl _ H p, Nat.le_refl _⟩, hd H p⟩
/-! lists of truth values, and what they tell -/
def AllB (H : Hp) (D : Addr) (m : Nat) (P : Prop) : Prop := ∃ bs : List Bool, H D = some (.lst (bs.map V.bl)) ∧ bs.length ≤ m ∧ (bs.all id = true ↔ P)
theorem AllB.nil {H : Hp} {D : Addr} : AllB (upd H D (.lst [])) D 0 True := ⟨[], upd_same, Nat.le_refl _, ⟨fun _ => trivial, fun _ => rfl⟩⟩
theorem AllB.same {H H' : Hp} {D : Addr} {m : Nat} {P : Prop} (k : Same H H') (h : AllB H D m P) : AllB H' D m P := let ⟨bs, h1, h2⟩ := h; ⟨bs, k _ _ h1, h2⟩
theorem AllB.iff {H : Hp} {D : Addr} {m m' : Nat} {P P' : Prop} (e : P ↔ P') (hm : m ≤ m') (h : AllB H D m P) : AllB H D m' P' := let ⟨bs, h1, h2, h3⟩ := h; ⟨bs, h1, by omega, h3.trans e⟩
theorem AllB.push {H : Hp} {D : Addr} {m : Nat} {P p : Prop} {b : Bool} {R : Hp → Prop} (h : AllB H D m P) (hm : m < 1000) (hb : b = true ↔ p) (q : ∀ acc, AllB (upd H D (.lst acc)) D (m + 1) (P ∧ p) → R (upd H D (.lst acc))) : ∃ acc, H D = some (.lst acc) ∧ acc.length < sizeLine ∧ R (upd H D (.lst (acc ++ [.bl b]))) := by
  obtain ⟨bs, h1, h2, h3⟩ := h
  refine ⟨_, h1, by rw [List.length_map]; exact small1000 (by omega), q _ ⟨bs ++ [b], by rw [upd_same, List.map_append]; rfl, by rw [List.length_append]; exact Nat.succ_le_succ h2, ?_⟩⟩
  rw [List.all_append, Bool.and_eq_true, h3]
  simp [hb]
/-- a table of the right form, sendings of any size -/
structure ShW (T : Tab) (k n : Nat) : Prop where
  n1 : 1 ≤ T.length
  n60 : T.length ≤ 60
  rl : ∀ row ∈ T, row.length = k
  nx : ∀ row ∈ T, ∀ e ∈ row, ∃ t : Nat, e.1 = t ∧ t < T.length
  sl : ∀ row ∈ T, ∀ e ∈ row, e.2.length = n
theorem shw_get {T : Tab} {k n s i : Nat} (l : ShW T k n) (hs : s < T.length) (hi : i < k) : ∃ e, ∃ t : Nat, getE T s i = some e ∧ e.1 = t ∧ t < T.length ∧ e.2.length = n := by
  have h1 : T[s]? = some T[s] := List.getElem?_eq_getElem hs
  have h2 := List.mem_of_getElem? h1
  have h3 : i < T[s].length := by rw [l.rl _ h2]; exact hi
  have h4 : T[s][i]? = some T[s][i] := List.getElem?_eq_getElem h3
  have h5 := List.mem_of_getElem? h4
  obtain ⟨t, et, tl⟩ := l.nx _ h2 _ h5
  refine ⟨T[s][i], t, ?_, et, tl, l.sl _ h2 _ h5⟩
  unfold getE
  rw [h1]
  exact h4
/-! tables as lists of lists -/
theorem tab_row {K : PySem.W.Frag} {H : Hp} {a : Addr} {T : Tab} (h : TabAt H a T) : ∃ vs, H a = some (.lst vs) ∧ vs.length = T.length ∧ ∀ (i : Nat) (v : V), vs[i]? = some v → ∃ row b us, T[i]? = some row ∧ v = .ref b ∧ H b = some (.lst us) ∧ us.length = row.length ∧ ∀ (j : Nat) (u : V), us[j]? = some u → ∃ e c t, row[j]? = some e ∧ u = .ref c ∧ H c = some (.tup [.int e.1, .ref t]) ∧ H t = some (.tup (e.2.map V.int)) := by
  obtain ⟨vs, hv, p⟩ := h
  refine ⟨vs, hv, p.length, fun i v hi => ?_⟩
  obtain ⟨row, hr, b, us, e, hb, pe⟩ := paired_get p i v hi
  refine ⟨row, b, us, hr, e, hb, pe.length, fun j u hj => ?_⟩
  obtain ⟨e', he, c, t, eu, hc, ht⟩ := paired_get pe j u hj
  exact ⟨e', c, t, he, eu, hc, ht⟩
/-- the stand behind two letters -/
def st2 (T : Tab) (i a b : Nat) : Option Int := (getE T i a).bind fun e => (getE T e.1.toNat b).map fun e' => e'.1
def EqS (T : Tab) (i : Nat) (p : Nat × Nat) : Prop := st2 T i p.1 p.2 = st2 T i p.2 p.1
def EqStands (T : Tab) (k : Nat) : Prop := ∀ i, i < T.length → ∀ p ∈ lpL k, EqS T i p
/-- an entry, by its places -/
theorem tab_at {K : PySem.W.Frag} {H : Hp} {a : Addr} {T : Tab} {i j : Nat} {e : Ent} (h : TabAt H a T) (g : getE T i j = some e) : ∃ vs b us c t, H a = some (.lst vs) ∧ vs[i]? = some (.ref b) ∧ H b = some (.lst us) ∧ us[j]? = some (.ref c) ∧ H c = some (.tup [.int e.1, .ref t]) ∧ H t = some (.tup (e.2.map V.int)) := by
  obtain ⟨row, hr, he⟩ := getE_row g
  obtain ⟨vs, hv, p⟩ := h
  obtain ⟨v, hvi, b, us, e1, hb, pe⟩ := paired_get2 p i row hr
  obtain ⟨u, hu, c, t, e2, hc, ht⟩ := paired_get2 pe j e he
  subst e1 e2
  exact ⟨vs, b, us, c, t, hv, hvi, hb, hu, hc, ht⟩
section
variable {P : Program} {w : World} {K : PySem.W.Frag} {mg : Str → Option Value} {base : Heap}
/-! stands_hold -/
def spShd : Sp := fun vs H Q _ => ∃ (a : Addr) (T : Tab) (k n : Nat), vs = [.ref a] ∧ TabAt H a T ∧ ShW T k n ∧ k ≤ 3 ∧ ∀ (H' : Hp) (b : Bool), Same H H' → (b = true ↔ EqStands T k) → Q (.bl b) H'
abbrev nmShd : List Str := ["rows", "row", "one", "other"]
theorem scShd : FnScope nmShd ["rows"] (defScope sShd) := ⟨rfl, rfl, rfl, by decide +kernel, rfl, by decide +kernel, by decide +kernel⟩
theorem ok_sh {f fL : Addr} {fd fdL : FuncData} {k : Nat} (F : Fun K "stands_hold" "stands_hold" sShd f fd) (B : Bi mg) (Lp : Has P w K mg base k "letter_pairs" ["letters"] spLp fL fdL) : FnOk P w K mg base CX0 (k + 1) f fd ["rows"] spShd := by
  refine F.ok scShd (fun vs H Q E h => ?_) (fun cdv A outer s H vs Q E hr h => ?_)
  · obtain ⟨a, T, k, n, rfl, _⟩ := h
    rfl
  · obtain ⟨a, T, k, n, rfl, ht, shp, k3, q⟩ := h
    refine ⟨_, (pss_one (ps_ret (pe_callB (cr_all rfl) (by rfl) B.all (by decide +kernel) (pa_cons (pe_lc2 (own := [("row", 1), ("one", 2), ("other", 3)]) (vs1 := [2, 3]) (g := (gName 1)) (g1 := (gTup K 2 (gCons (gName 2) (gCons (gName 3) gNil)))) (tt := tYes) (tt1 := tYes) (wi1 := iList K (tCall spLp [] E0 (tCons (tCB (rLenK K) (tCons (tVar 1) tNil)) tNil))) (te := tOp rEq (tOp (rIxT K) (tOp (rIxL K) (tOp (rIxL K) (tVar 0) (tOp (rIxT K) (tOp (rIxL K) (tVar 1) (tVar 2)) (tC (.int 0)))) (tVar 3)) (tC (.int 0))) (tOp (rIxT K) (tOp (rIxL K) (tOp (rIxL K) (tVar 0) (tOp (rIxT K) (tOp (rIxL K) (tVar 1) (tVar 3)) (tC (.int 0)))) (tVar 2)) (tC (.int 0)))) rfl scShd.nd (pi_list (pv 0)) (blkOk_by (own := [("row", 1), ("one", 2), ("other", 3)]) (N := nmShd) (sc := defScope sShd) (by decide +kernel)) (by decide)
      (fun _ _ _ _ _ => (pg_name (i := 1) scShd.nd rfl (Or.inl rfl))) (fun _ _ _ _ _ => pts_nil) (fun _ _ _ _ _ => (pi_list (pe_call Lp.G hr (by rfl) Lp.g Lp.kp Lp.b .nil pass0 (pa_cons (pe_callB call_len_seq (by rfl) B.len PySem.boot_len (pa_cons (pv 1) pa_nil)) pa_nil)))) (fun _ _ _ _ _ => (pg_tup rfl (pgs_cons (pg_name (i := 2) scShd.nd rfl (Or.inl rfl)) (pgs_cons (pg_name (i := 3) scShd.nd rfl (Or.inl rfl)) pgs_nil)))) (fun _ _ _ _ _ => pts_nil) (fun _ _ _ _ _ => (pe_cmpR op_eq (pe_ix (r := rIxT K) ix_tup (pe_ix (r := rIxL K) ix_list (pe_ix (r := rIxL K) ix_list (pv 0) (pe_ix (r := rIxT K) ix_tup (pe_ix (r := rIxL K) ix_list (pv 1) (pv 2) (fun _ _ => rfl)) pe_int (fun _ _ => rfl)) (fun _ _ => rfl)) (pv 3) (fun _ _ => rfl)) pe_int (fun _ _ => rfl)) (pe_ix (r := rIxT K) ix_tup (pe_ix (r := rIxL K) ix_list (pe_ix (r := rIxL K) ix_list (pv 0) (pe_ix (r := rIxT K) ix_tup (pe_ix (r := rIxL K) ix_list (pv 1) (pv 3) (fun _ _ => rfl)) pe_int (fun _ _ => rfl)) (fun _ _ => rfl)) (pv 2) (fun _ _ => rfl)) pe_int (fun _ _ => rfl)) (nomark _)))) pa_nil)))), ?_⟩
    have n60 := shp.n60
    obtain ⟨vs, hv, lv, rows⟩ := tab_row (K := K) ht
    refine ⟨_, rfl, a, rfl, ⟨_, SqL.of hv⟩, fun D nD => ?_⟩
    have lpm : (lpL k).length ≤ 9 := by
      have := lp_len k k
      have : k * k ≤ 9 := Nat.mul_le_mul k3 k3
      unfold lpL
      omega
    refine w_lst (K := K) (a := a) (xs := vs) (fun i H' => Same H H' ∧ AllB H' D (i * 9) (∀ i', i' < i → ∀ p ∈ lpL k, EqS T i' p)) ⟨same_upd nD, AllB.nil.iff ⟨fun _ i' h => absurd h (Nat.not_lt_zero _), fun _ => trivial⟩ (by omega)⟩ (fun i H' ⟨sm, _⟩ => SqL.of (sm _ _ hv)) ?_ ?_
    · rintro i x H1 hx ⟨sm1, ab1⟩
      obtain ⟨row, b, us, hrow, rfl, hb, lus, ents⟩ := rows i x hx
      have il := (List.getElem?_eq_some_iff.mp hrow).1
      have rl := shp.rl row (List.mem_of_getElem? hrow)
      refine ⟨rfl, ?_⟩
      refine ⟨_, rfl, b, us, rfl, .inl (SqL.of (sm1 _ _ hb)), k, by rw [lus, rl]; rfl, by omega, fun H2 q2 ws sm2 nq2 hq2 pp => ?_⟩
      have sm12 := sm1.trans sm2
      have lws := pp.length
      refine ⟨q2, rfl, ⟨_, SqL.of hq2⟩, ?_⟩
      have nqD : q2 ≠ D := by
        obtain ⟨bs, hD, _⟩ := ab1
        exact ne_of_fresh hD nq2
      refine w_lst (K := K) (a := q2) (xs := ws) (fun j H' => Same H H' ∧ (∀ b' o', b' ≠ D → H2 b' = some o' → H' b' = some o') ∧ AllB H' D (i * 9 + j) ((∀ i', i' < i → ∀ p ∈ lpL k, EqS T i' p) ∧ ∀ p ∈ (lpL k).take j, EqS T i p)) ⟨sm12, fun _ _ _ h => h, (ab1.same sm2).iff ⟨fun h => ⟨h, fun p hp => by rw [List.take_zero] at hp; cases hp⟩, fun h => h.1⟩ (by omega)⟩ (fun j H' ⟨_, kp, _⟩ => SqL.of (kp _ _ nqD hq2)) ?_ ?_
      · rintro j y H3 hy ⟨sm13, kp3, ab3⟩
        obtain ⟨p, hp, c, rfl, hc⟩ := paired_get pp j y hy
        have jl := (List.getElem?_eq_some_iff.mp hp).1
        obtain ⟨p1, p2⟩ := lpL_mem (List.mem_of_getElem? hp)
        have ncD : c ≠ D := fun z => by
          obtain ⟨bs, hD, _⟩ := ab1
          rw [z, sm2 _ _ hD] at hc
          cases hc
        obtain ⟨e1, t1, g1, et1, tl1, _⟩ := shw_get shp il (show p.1 < k by omega)
        obtain ⟨e2, t2, g2, et2, tl2, _⟩ := shw_get shp il p2
        obtain ⟨e12, _, g12, _⟩ := shw_get shp tl1 p2
        obtain ⟨e21, _, g21, _⟩ := shw_get shp tl2 (show p.1 < k by omega)
        have hE : EqS T i p ↔ e12.1 = e21.1 := by
          unfold EqS st2
          simp only [g1, g2, Option.bind_some, et1, et2, Int.toNat_natCast, g12, g21, Option.map_some, Option.some.injEq]
        have t3 := ht.same sm13
        obtain ⟨va, ba, ua, ca, ta, a1, a2, a3, a4, a5, a6⟩ := tab_at (K := K) t3 g1
        obtain ⟨vb, bb, ub, cb, tb, b1, b2, b3, b4, b5, b6⟩ := tab_at (K := K) t3 g2
        obtain ⟨vc, bc, uc, cc, tc, c1, c2, c3, c4, c5, c6⟩ := tab_at (K := K) t3 g12
        obtain ⟨vd, bd, ud, cd, td, d1, d2, d3, d4, d5, d6⟩ := tab_at (K := K) t3 g21
        have eq1 : va = vs := HO.lst.inj (Option.some.inj (a1.symm.trans (sm13 _ _ hv)))
        have eq2 : vb = vs := HO.lst.inj (Option.some.inj (b1.symm.trans (sm13 _ _ hv)))
        rw [eq1, hx] at a2
        rw [eq2, hx] at b2
        cases Option.some.inj a2
        cases Option.some.inj b2
        rw [et1] at a5
        rw [et2] at b5
        refine ⟨c, _, rfl, SqT.of (kp3 _ _ ncD hc), rfl, _, _, rfl, _, _, rfl, rfl, ?_⟩
        refine ⟨rfl, ?_⟩
        refine ⟨_, rfl, _, rfl, _, rfl, b, _, _, _, rfl, rfl, SqL.of a3, atI_nat (j := p.1) a4, ca, _, 0, _, rfl, rfl, SqT.of a5, atI_nat (j := 0) rfl, a, _, _, _, rfl, rfl, SqL.of c1, atI_nat (j := t1) c2, _, rfl, bc, _, _, _, rfl, rfl, SqL.of c3, atI_nat (j := p.2) c4, cc, _, 0, _, rfl, rfl, SqT.of c5, atI_nat (j := 0) rfl, ?_⟩
        refine ⟨_, rfl, _, rfl, _, rfl, b, _, _, _, rfl, rfl, SqL.of b3, atI_nat (j := p.2) b4, cb, _, 0, _, rfl, rfl, SqT.of b5, atI_nat (j := 0) rfl, a, _, _, _, rfl, rfl, SqL.of d1, atI_nat (j := t2) d2, _, rfl, bd, _, _, _, rfl, rfl, SqL.of d3, atI_nat (j := p.1) d4, cd, _, 0, _, rfl, rfl, SqT.of d5, atI_nat (j := 0) rfl, rfl, ?_⟩
        refine ab3.push (R := fun H' => Same H H' ∧ (∀ b' o', b' ≠ D → H2 b' = some o' → H' b' = some o') ∧ AllB H' D (i * 9 + (j + 1)) ((∀ i', i' < i → ∀ p ∈ lpL k, EqS T i' p) ∧ ∀ p ∈ (lpL k).take (j + 1), EqS T i p)) (b := decide (V.int e12.1 = V.int e21.1)) (p := EqS T i p) (by omega) (by rw [hE]; simp) fun acc ab => ⟨sm13.put nD, fun b' o' hne h => by rw [upd_ne hne]; exact kp3 _ _ hne h, ab.iff ⟨fun h => ⟨h.1.1, fun p' hp' => ?_⟩, fun h => ⟨⟨h.1, fun p' hp' => h.2 p' ?_⟩, h.2 p ?_⟩⟩ (Nat.le_refl _)⟩
        · rw [List.take_add_one, hp] at hp'
          rcases List.mem_append.mp hp' with z | z
          · exact h.1.2 p' z
          · have : p' = p := by simpa using z
            rw [this]
            exact h.2
        · rw [List.take_add_one]
          exact List.mem_append_left _ hp'
        · rw [List.take_add_one, hp]
          exact List.mem_append_right _ (by simp)
      · rintro H3 ⟨sm13, kp3, ab3⟩
        rw [lws, List.take_length] at ab3
        refine ⟨sm13, ab3.iff ⟨fun h i' hi' p hp => ?_, fun h => ⟨fun i' hi' => h i' (by omega), h i (Nat.lt_succ_self i)⟩⟩ (by rw [Nat.add_mul]; omega)⟩
        by_cases hlt : i' < i
        · exact h.1 i' hlt p hp
        · have : i' = i := by omega
          rw [this]
          exact h.2 p hp
    · rintro H1 ⟨sm1, bs, hD, _, iff1⟩
      refine ⟨D, bs, rfl, SqL.of hD, ?_⟩
      rw [lv] at iff1
      exact q H1 _ sm1 iff1
/-! unders_hold -/
def Un (L : List Prs) : Prop := ∀ r ∈ L, ∀ p ∈ r, 1 ≤ p.2
def spUh : Sp := fun vs H Q _ => ∃ (q : Addr) (t : Bool) (L : List Prs), vs = [.ref q] ∧ LsF t H q L ∧ L.length ≤ 70 ∧ L3 L ∧ ∀ (H' : Hp) (b : Bool), Same H H' → (b = true ↔ Un L) → Q (.bl b) H'
abbrev nmUh : List Str := ["lines", "line", "over", "under"]
theorem scUh : FnScope nmUh ["lines"] (defScope sUh) := ⟨rfl, rfl, rfl, by decide +kernel, rfl, by decide +kernel, by decide +kernel⟩
theorem ok_uh {f : Addr} {fd : FuncData} {k : Nat} (F : Fun K "unders_hold" "unders_hold" sUh f fd) (B : Bi mg) : FnOk P w K mg base CX0 (k + 1) f fd ["lines"] spUh := by
  refine F.ok scUh (fun vs H Q E h => ?_) (fun cdv A outer s H vs Q E hr h => ?_)
  · obtain ⟨q, t, L, rfl, _⟩ := h
    rfl
  · obtain ⟨q, t, L, rfl, hL, l70, l3, Qk⟩ := h
    refine ⟨_, (pss_one (ps_ret (pe_callB (cr_all rfl) (by rfl) B.all (by decide +kernel) (pa_cons (pe_lc2 (own := [("line", 1), ("over", 2), ("under", 3)]) (vs1 := [2, 3]) (g := (gName 1)) (g1 := (gTup K 2 (gCons (gName 2) (gCons (gName 3) gNil)))) (tt := tYes) (tt1 := tYes) (wi1 := iSeq K (tVar 1)) rfl scUh.nd (pi_list (pv 0)) (blkOk_by (own := [("line", 1), ("over", 2), ("under", 3)]) (N := nmUh) (sc := defScope sUh) (by decide +kernel)) (by decide)
      (fun _ _ _ _ _ => (pg_name (i := 1) scUh.nd rfl (Or.inl rfl))) (fun _ _ _ _ _ => pts_nil) (fun _ _ _ _ _ => (pi_seq (pv 1))) (fun _ _ _ _ _ => (pg_tup rfl (pgs_cons (pg_name (i := 2) scUh.nd rfl (Or.inl rfl)) (pgs_cons (pg_name (i := 3) scUh.nd rfl (Or.inl rfl)) pgs_nil)))) (fun _ _ _ _ _ => pts_nil) (fun _ _ _ _ _ => (pe_cmpR op_ge (pv 3) pe_int (nomark _)))) pa_nil)))), ?_⟩
    obtain ⟨vs, hv, pv'⟩ := hL
    have lv := pv'.length
    refine ⟨_, rfl, q, rfl, ⟨_, SqL.of hv⟩, fun D nD => ?_⟩
    refine w_lst (K := K) (a := q) (xs := vs) (fun i H' => Same H H' ∧ AllB H' D (i * 3) (∀ r ∈ L.take i, ∀ p ∈ r, 1 ≤ p.2)) ⟨same_upd nD, AllB.nil.iff ⟨(fun _ r hr => by rw [List.take_zero] at hr; cases hr), fun _ => trivial⟩ (by omega)⟩ (fun i H' ⟨sm, _⟩ => SqL.of (sm _ _ hv)) ?_ ?_
    · rintro i x H1 hx ⟨sm1, ab1⟩
      obtain ⟨ps, hps, b, us, rfl, hb, pr⟩ := paired_get pv' i x hx
      have il := (List.getElem?_eq_some_iff.mp hps).1
      have lus := pr.length
      have p3 := l3 ps (List.mem_of_getElem? hps)
      refine ⟨rfl, ?_⟩
      have body : ∀ (j : Nat) (y : V) (H3 : Hp), us[j]? = some y → (Same H H3 ∧ AllB H3 D (i * 3 + j) ((∀ r ∈ L.take i, ∀ p ∈ r, 1 ≤ p.2) ∧ ∀ p ∈ ps.take j, 1 ≤ p.2)) → ∃ (c : Addr) (o u : Int), y = .ref c ∧ H3 c = some (.tup [.int o, .int u]) ∧ ∃ acc, H3 D = some (.lst acc) ∧ acc.length < sizeLine ∧ Same H (upd H3 D (.lst (acc ++ [.bl (decide (1 ≤ u))]))) ∧ AllB (upd H3 D (.lst (acc ++ [.bl (decide (1 ≤ u))]))) D (i * 3 + (j + 1)) ((∀ r ∈ L.take i, ∀ p ∈ r, 1 ≤ p.2) ∧ ∀ p ∈ ps.take (j + 1), 1 ≤ p.2) := by
        rintro j y H3 hy ⟨sm3, ab3⟩
        obtain ⟨p, hp, c, rfl, hc⟩ := paired_get pr j y hy
        have jl := (List.getElem?_eq_some_iff.mp hp).1
        refine ⟨c, p.1, p.2, rfl, sm3 _ _ hc, ?_⟩
        refine ab3.push (R := fun H' => Same H H' ∧ AllB H' D (i * 3 + (j + 1)) ((∀ r ∈ L.take i, ∀ p ∈ r, 1 ≤ p.2) ∧ ∀ p ∈ ps.take (j + 1), 1 ≤ p.2)) (by omega) (p := 1 ≤ p.2) (by simp) fun acc ab => ⟨sm3.put nD, ab.iff ⟨fun h => ⟨h.1.1, fun p' hp' => ?_⟩, fun h => ⟨⟨h.1, fun p' hp' => h.2 p' ?_⟩, h.2 p ?_⟩⟩ (Nat.le_refl _)⟩
        · rw [List.take_add_one, hp] at hp'
          rcases List.mem_append.mp hp' with z | z
          · exact h.1.2 p' z
          · have : p' = p := by simpa using z
            rw [this]
            exact h.2
        · rw [List.take_add_one]
          exact List.mem_append_left _ hp'
        · rw [List.take_add_one, hp]
          exact List.mem_append_right _ (by simp)
      have fin : ∀ H3 : Hp, (Same H H3 ∧ AllB H3 D (i * 3 + us.length) ((∀ r ∈ L.take i, ∀ p ∈ r, 1 ≤ p.2) ∧ ∀ p ∈ ps.take us.length, 1 ≤ p.2)) → Same H H3 ∧ AllB H3 D ((i + 1) * 3) (∀ r ∈ L.take (i + 1), ∀ p ∈ r, 1 ≤ p.2) := by
        rintro H3 ⟨sm3, ab3⟩
        rw [lus, List.take_length] at ab3
        refine ⟨sm3, ab3.iff ⟨fun h r hr => ?_, fun h => ⟨fun r hr => h r ?_, h ps ?_⟩⟩ (by rw [Nat.add_mul]; omega)⟩
        · rw [List.take_add_one, hps] at hr
          rcases List.mem_append.mp hr with z | z
          · exact h.1 r z
          · have : r = ps := by simpa using z
            rw [this]
            exact h.2
        · rw [List.take_add_one]
          exact List.mem_append_left _ hr
        · rw [List.take_add_one, hps]
          exact List.mem_append_right _ (by simp)
      have h0 : Same H H1 ∧ AllB H1 D (i * 3 + 0) ((∀ r ∈ L.take i, ∀ p ∈ r, 1 ≤ p.2) ∧ ∀ p ∈ ps.take 0, 1 ≤ p.2) := ⟨sm1, ab1.iff ⟨fun h => ⟨h, fun p hp => by rw [List.take_zero] at hp; cases hp⟩, fun h => h.1⟩ (Nat.le_refl _)⟩
      refine ⟨_, rfl, b, rfl, ?_⟩
      cases t with
      | false =>
        have hb1 : ∀ H3 : Hp, Same H H3 → H3 b = some (.lst us) := fun H3 sm => sm _ _ hb
        refine .inl ⟨⟨_, SqL.of (hb1 _ sm1)⟩, ?_⟩
        refine w_lst (K := K) (a := b) (xs := us) (fun j H' => Same H H' ∧ AllB H' D (i * 3 + j) ((∀ r ∈ L.take i, ∀ p ∈ r, 1 ≤ p.2) ∧ ∀ p ∈ ps.take j, 1 ≤ p.2)) h0 (fun j H' ⟨sm, _⟩ => SqL.of (hb1 _ sm)) ?_ fin
        rintro j y H3 hy inv
        obtain ⟨c, o, u, rfl, hc, nx⟩ := body j y H3 hy inv
        exact ⟨c, _, rfl, SqT.of hc, rfl, _, _, rfl, _, _, rfl, rfl, rfl, _, rfl, _, _, rfl, rfl, nx⟩
      | true =>
        have hb1 : ∀ H3 : Hp, Same H H3 → H3 b = some (.tup us) := fun H3 sm => sm _ _ hb
        refine .inr ⟨⟨_, SqT.of (hb1 _ sm1)⟩, ?_⟩
        refine w_tup (K := K) (a := b) (xs := us) (fun j H' => Same H H' ∧ AllB H' D (i * 3 + j) ((∀ r ∈ L.take i, ∀ p ∈ r, 1 ≤ p.2) ∧ ∀ p ∈ ps.take j, 1 ≤ p.2)) h0 (fun j H' ⟨sm, _⟩ => SqT.of (hb1 _ sm)) ?_ fin
        rintro j y H3 hy inv
        obtain ⟨c, o, u, rfl, hc, nx⟩ := body j y H3 hy inv
        exact ⟨c, _, rfl, SqT.of hc, rfl, _, _, rfl, _, _, rfl, rfl, rfl, _, rfl, _, _, rfl, rfl, nx⟩
    · rintro H1 ⟨sm1, bs, hD, _, iff1⟩
      refine ⟨D, bs, rfl, SqL.of hD, ?_⟩
      rw [lv, List.take_length] at iff1
      exact Qk H1 _ sm1 iff1
end
end Hl

set_option Elab.async false
set_option linter.all false
set_option maxRecDepth 100000
set_option maxHeartbeats 4000000
namespace Hl
open PySem PySem.Spec PyProof.Rows L2
abbrev sAm : Stmt := topS 11
abbrev sSe : Stmt := topS 13
structure Bz (mg : Str → Option Value) : Prop where
  any : mg "any" = none
  en : mg "enumerate" = none
structure AsM (T : Tab) (k n : Nat) (R Bg : List Prs) : Prop where
  lb : Bg.length = T.length
  lr : R.length = k
  wr : ∀ r ∈ R, r.length = n
  wb : ∀ r ∈ Bg, r.length = n
theorem wipe_in {σ : L2.St} {j : Nat} : ∀ {vs : List Nat}, j ∈ vs → (wipe σ vs)[j]? = if j < σ.length then some none else none
  | v :: vs, h => by
    show ((wipe σ vs).set v none)[j]? = _
    rw [List.getElem?_set, wipe_length]
    by_cases e : v = j
    · rw [if_pos e]
      subst e
      rfl
    · rw [if_neg e]
      rcases List.mem_cons.mp h with z | z
      · exact absurd z.symm e
      · exact wipe_in z
theorem wipe_set {σ : L2.St} {i : Nat} {v : Option V} {vs : List Nat} (h : i ∈ vs) : wipe (σ.set i v) vs = wipe σ vs := by
  refine List.ext_getElem? fun j => ?_
  by_cases hj : j ∈ vs
  · rw [wipe_in hj, wipe_in hj, List.length_set]
  · rw [wipe_out hj, wipe_out hj, List.getElem?_set, if_neg (fun e : i = j => hj (by rw [← e]; exact h))]
theorem wipe_wipe {σ : L2.St} {vs : List Nat} : wipe (wipe σ vs) vs = wipe σ vs := by
  refine List.ext_getElem? fun j => ?_
  by_cases hj : j ∈ vs
  · rw [wipe_in hj, wipe_in hj, wipe_length]
  · rw [wipe_out hj]
/-- a row of parts at its place -/
theorem ls_at {t : Bool} {H : Hp} {q : Addr} {L : List Prs} {vs : List V} (h : LsF t H q L) (hv : H q = some (.lst vs)) {i : Nat} {v : V} (hi : vs[i]? = some v) : ∃ ps b us, L[i]? = some ps ∧ v = .ref b ∧ H b = some (seqO t us) ∧ us.length = ps.length ∧ Paired (PrAt H) us ps := by
  obtain ⟨vs', hv', p⟩ := h
  have e : vs' = vs := HO.lst.inj (Option.some.inj (hv'.symm.trans hv))
  subst e
  obtain ⟨ps, hps, b, us, e1, hb, pr⟩ := paired_get p i v hi
  exact ⟨ps, b, us, hps, e1, hb, pr.length, pr⟩
def okA (R Bg : List Prs) (n i j : Nat) : Prop := (∀ r, R[j]? = some r → r.length = n) ∧ ∀ r, Bg[i]? = some r → r.length = n
section
variable {P : Program} {w : World} {K : PySem.W.Frag} {mg : Str → Option Value} {base : Heap}
/-! as_many -/
def spAm : Sp := fun vs H Q _ => ∃ (a r q : Addr) (T : Tab) (k n : Nat) (R Bg : List Prs), vs = [.ref a, .ref r, .ref q] ∧ TabAt H a T ∧ ShW T k n ∧ 1 ≤ k ∧ k ≤ 3 ∧ LsF false H r R ∧ LsF true H q Bg ∧ ∀ (H' : Hp) (b : Bool), Same H H' → (b = true ↔ AsM T k n R Bg) → Q (.bl b) H'
abbrev nmAm : List Str := ["rows", "rates", "purses", "row", "purse", "after", "sends", "rate"]
theorem scAm : FnScope nmAm ["rows", "rates", "purses"] (defScope sAm) := ⟨rfl, rfl, rfl, by decide +kernel, rfl, by decide +kernel, by decide +kernel⟩
theorem ok_am {f : Addr} {fd : FuncData} {k : Nat} (F : Fun K "as_many" "as_many" sAm f fd) (B : Bi mg) (J : Bj mg) (Z : Bz mg) : FnOk P w K mg base CX0 (k + 1) f fd ["rows", "rates", "purses"] spAm := by
  refine F.ok scAm (fun vs H Q E h => ?_) (fun cdv A outer s H vs Q E hr h => ?_)
  · obtain ⟨a, r, q, T, k, n, R, Bg, rfl, _⟩ := h
    rfl
  · obtain ⟨a, r, q, T, k, n, R, Bg, rfl, ht, shp, k1, k3, hR, hB, Qk⟩ := h
    refine ⟨_, (pss_cons (ps_if (PW.pt (pw_or (pt_cmpR op_ne (pe_callB call_len_seq (by rfl) B.len PySem.boot_len (pa_cons (pv 2) pa_nil)) (pe_callB call_len_seq (by rfl) B.len PySem.boot_len (pa_cons (pv 0) pa_nil)) (nomark _)) (pw_or1 (pt_val (pe_callB (cr_any rfl) (by rfl) Z.any (by decide +kernel) (pa_cons (pe_lc (own := [("row", 3)]) (g := (gName 3)) (tt := tYes) (te := tOp rNe (tCB (rLenK K) (tCons (tVar 3) tNil)) (tCB (rLenK K) (tCons (tVar 1) tNil))) rfl scAm.nd (pi_list (pv 0)) (blkOk_by (own := [("row", 3)]) (N := nmAm) (sc := defScope sAm) (by decide +kernel)) (fun _ _ _ _ _ => (pg_name (i := 3) scAm.nd rfl (Or.inl rfl))) (fun _ _ _ _ _ => pts_nil) (fun _ _ _ _ _ => (pe_cmpR op_ne (pe_callB call_len_seq (by rfl) B.len PySem.boot_len (pa_cons (pv 3) pa_nil)) (pe_callB call_len_seq (by rfl) B.len PySem.boot_len (pa_cons (pv 1) pa_nil)) (nomark _)))) pa_nil)))))) (pss_one (ps_ret pe_bl)) pss_nil)
        (pss_one (ps_ret (pe_callB (cr_all rfl) (by rfl) B.all (by decide +kernel) (pa_cons (pe_lc2 (own := [("row", 3), ("purse", 4), ("after", 5), ("sends", 6), ("rate", 7)]) (vs1 := [5, 6, 7]) (g := (gTup K 2 (gCons (gName 3) (gCons (gName 4) gNil)))) (g1 := (gTup K 2 (gCons (gTup K 2 (gCons (gName 5) (gCons (gName 6) gNil))) (gCons (gName 7) gNil)))) (tt := tYes) (tt1 := tYes) (wi1 := iZip K (tCons (tVar 3) (tCons (tVar 1) tNil))) (te := tAndV (tOp rEq (tCB (rLenK K) (tCons (tVar 6) tNil)) (tCB (rLenK K) (tCons (tVar 7) tNil))) (tOp rEq (tCB (rLenK K) (tCons (tVar 6) tNil)) (tCB (rLenK K) (tCons (tVar 4) tNil)))) rfl scAm.nd (pi_zip (by rfl) J.zip (pa_cons (pv 0) (pa_cons (pv 2) pa_nil))) (blkOk_by (own := [("row", 3), ("purse", 4), ("after", 5), ("sends", 6), ("rate", 7)]) (N := nmAm) (sc := defScope sAm) (by decide +kernel)) (by decide)
      (fun _ _ _ _ _ => (pg_tup rfl (pgs_cons (pg_name (i := 3) scAm.nd rfl (Or.inl rfl)) (pgs_cons (pg_name (i := 4) scAm.nd rfl (Or.inl rfl)) pgs_nil)))) (fun _ _ _ _ _ => pts_nil) (fun _ _ _ _ _ => (pi_zip (by rfl) J.zip (pa_cons (pv 3) (pa_cons (pv 1) pa_nil)))) (fun _ _ _ _ _ => (pg_tup rfl (pgs_cons (pg_tup rfl (pgs_cons (pg_name (i := 5) scAm.nd rfl (Or.inl rfl)) (pgs_cons (pg_name (i := 6) scAm.nd rfl (Or.inl rfl)) pgs_nil))) (pgs_cons (pg_name (i := 7) scAm.nd rfl (Or.inl rfl)) pgs_nil)))) (fun _ _ _ _ _ => pts_nil) (fun _ _ _ _ _ => (pe_and (pe_cmpR op_eq (pe_callB call_len_seq (by rfl) B.len PySem.boot_len (pa_cons (pv 6) pa_nil)) (pe_callB call_len_seq (by rfl) B.len PySem.boot_len (pa_cons (pv 7) pa_nil)) (nomark _)) (pe_one (pe_cmpR op_eq (pe_callB call_len_seq (by rfl) B.len PySem.boot_len (pa_cons (pv 6) pa_nil)) (pe_callB call_len_seq (by rfl) B.len PySem.boot_len (pa_cons (pv 4) pa_nil)) (nomark _)))))) pa_nil))))), ?_⟩
    have n60 := shp.n60
    have n1 := shp.n1
    obtain ⟨vs, hv, lv, rows⟩ := tab_row (K := K) ht
    obtain ⟨vr, hvr, pr⟩ := id hR
    obtain ⟨vq, hvq, pq⟩ := id hB
    have lr := pr.length
    have lq := pq.length
    refine ⟨_, rfl, q, vq, rfl, .inl (SqL.of hvq), _, rfl, a, vs, rfl, .inl (SqL.of hv), rfl, _, rfl, ite2 (fun e => ?_) (fun e => ?_)⟩
    · refine Qk H false (Same.refl _) ⟨(fun h => Bool.noConfusion h), fun h => ?_⟩
      have h1 := h.lb
      rw [lq, lv, h1] at e
      simp at e
    have e1 : Bg.length = T.length := by
      rw [lq, lv] at e
      simp at e
      omega
    refine ⟨_, rfl, a, rfl, ⟨_, SqL.of hv⟩, fun D nD => ?_⟩
    refine w_lst (K := K) (a := a) (xs := vs) (fun i H' => Same H H' ∧ H' D = some (.lst ((List.replicate i (!decide (k = R.length))).map V.bl))) ⟨same_upd nD, upd_same⟩ (fun i H' ⟨sm, _⟩ => SqL.of (sm _ _ hv)) ?_ ?_
    · rintro i x H1 hx ⟨sm1, hD1⟩
      obtain ⟨row, b, us, hrow, rfl, hb, lus, _⟩ := rows i x hx
      have rl := shp.rl row (List.mem_of_getElem? hrow)
      have il := (List.getElem?_eq_some_iff.mp hx).1
      refine ⟨rfl, ?_⟩
      refine ⟨_, rfl, b, us, rfl, .inl (SqL.of (sm1 _ _ hb)), _, rfl, r, vr, rfl, .inl (SqL.of (sm1 _ _ hvr)), rfl, _, hD1, by rw [List.length_map, List.length_replicate]; exact small1000 (by omega), sm1.put nD, ?_⟩
      rw [upd_same, List.replicate_succ', List.map_append, lus, rl, lr]
      have ed : decide (V.int (k : Nat) = V.int (R.length : Nat)) = decide (k = R.length) := by
        by_cases h : k = R.length
        · rw [h]
          simp
        · rw [decide_eq_false h, decide_eq_false (fun z => h (by have := V.int.inj z; omega))]
      rw [ed]
      rfl
    rintro H1 ⟨sm1, hD1⟩
    have ea : (List.replicate vs.length (!decide (k = R.length))).any id = !decide (k = R.length) := by
      have : vs.length ≠ 0 := by omega
      cases h : decide (k = R.length) <;> simp [this]
    refine ⟨D, _, rfl, SqL.of hD1, ?_⟩
    rw [ea]
    refine ⟨_, rfl, ite2 (fun e => ?_) (fun e => ?_)⟩
    · refine Qk H1 false sm1 ⟨(fun h => Bool.noConfusion h), fun h => ?_⟩
      have h1 := h.lr
      rw [h1] at e
      simp at e
    have e2 : R.length = k := by
      simp at e
      omega
    have lvq : vs.length = vq.length := by omega
    refine ⟨_, rfl, _, rfl, a, q, vs, vq, rfl, SqL.of (sm1 _ _ hv), SqL.of (sm1 _ _ hvq), fun D2 nD2 => ?_⟩
    refine w_zip (K := K) (a := a) (b := q) (xs := vs) (ys := vq) lvq (fun i H' => Same H H' ∧ AllB H' D2 (i * 3) (∀ i', i' < i → ∀ j, j < k → okA R Bg n i' j)) ⟨sm1.trans (same_upd nD2), AllB.nil.iff ⟨fun _ i' h => absurd h (Nat.not_lt_zero _), fun _ => trivial⟩ (by omega)⟩ (fun i H' ⟨sm, _⟩ => ⟨SqL.of (sm _ _ hv), SqL.of (sm _ _ hvq)⟩) ?_ ?_
    · rintro i x y T' H2 hx hy ⟨sm2, ab2⟩ nT
      obtain ⟨row, b, us, hrow, rfl, hb, lus, ents⟩ := rows i x hx
      obtain ⟨ps, bq, uq, hps, rfl, hbq, luq, _⟩ := ls_at hB hvq hy
      have il := (List.getElem?_eq_some_iff.mp hrow).1
      have rl := shp.rl row (List.mem_of_getElem? hrow)
      have sT := same_upd (o := .tup [.ref b, .ref bq]) nT
      refine ⟨T', _, rfl, SqT.of upd_same, rfl, _, _, rfl, _, _, rfl, rfl, ?_⟩
      have sm3 := sm2.trans sT
      have ab3 := ab2.same sT
      generalize (upd H2 T' (.tup [.ref b, .ref bq])) = H3 at *
      refine ⟨by rw [wipe_set (by decide), wipe_set (by decide), wipe_wipe], ?_⟩
      refine ⟨_, rfl, _, rfl, b, r, us, vr, rfl, SqL.of (sm3 _ _ hb), SqL.of (sm3 _ _ hvr), ?_⟩
      refine w_zip (K := K) (a := b) (b := r) (xs := us) (ys := vr) (by omega) (fun j H' => Same H H' ∧ AllB H' D2 (i * 3 + j) ((∀ i', i' < i → ∀ j, j < k → okA R Bg n i' j) ∧ ∀ j', j' < j → okA R Bg n i j')) ⟨sm3, ab3.iff ⟨fun h => ⟨h, fun j' h => absurd h (Nat.not_lt_zero _)⟩, fun h => h.1⟩ (by omega)⟩ (fun j H' ⟨sm, _⟩ => ⟨SqL.of (sm _ _ hb), SqL.of (sm _ _ hvr)⟩) ?_ ?_
      · rintro j u v T2 H4 hu hv' ⟨sm4, ab4⟩ nT2
        obtain ⟨e', c, t, he, rfl, hc, ht'⟩ := ents j u hu
        obtain ⟨pr', br, ur, hpr, rfl, hbr, lur, _⟩ := ls_at hR hvr hv'
        have jl := (List.getElem?_eq_some_iff.mp hu).1
        have sT2 := same_upd (o := .tup [.ref c, .ref br]) nT2
        have sm5 := sm4.trans sT2
        have ab5 := ab4.same sT2
        have sl := shp.sl row (List.mem_of_getElem? hrow) e' (List.mem_of_getElem? he)
        refine ⟨T2, _, rfl, SqT.of upd_same, rfl, _, _, rfl, c, _, rfl, SqT.of (sm5 _ _ hc), rfl, _, _, rfl, _, _, rfl, rfl, _, _, rfl, rfl, ?_⟩
        generalize (upd H4 T2 (.tup [.ref c, .ref br])) = H5 at *
        refine ⟨by rw [wipe_set (by decide), wipe_set (by decide), wipe_set (by decide), wipe_wipe], ?_⟩
        have lt' : (e'.2.map V.int).length = n := by rw [List.length_map, sl]
        have d1 : decide (V.int ((e'.2.map V.int).length : Nat) = V.int (ur.length : Nat)) = decide (pr'.length = n) := by
          rw [lt', lur]
          by_cases h : pr'.length = n
          · rw [h]
            simp
          · rw [decide_eq_false h, decide_eq_false (fun z => h (by have := V.int.inj z; omega))]
        have d2 : decide (V.int ((e'.2.map V.int).length : Nat) = V.int (uq.length : Nat)) = decide (ps.length = n) := by
          rw [lt', luq]
          by_cases h : ps.length = n
          · rw [h]
            simp
          · rw [decide_eq_false h, decide_eq_false (fun z => h (by have := V.int.inj z; omega))]
        have okI : okA R Bg n i j ↔ pr'.length = n ∧ ps.length = n := ⟨fun h => ⟨h.1 _ hpr, h.2 _ hps⟩, fun h => ⟨fun r hr => by rw [hpr] at hr; cases hr; exact h.1, fun r hr => by rw [hps] at hr; cases hr; exact h.2⟩⟩
        have fin : ∀ (b : Bool), (b = true ↔ pr'.length = n ∧ ps.length = n) → ∃ acc, H5 D2 = some (.lst acc) ∧ acc.length < sizeLine ∧ Same H (upd H5 D2 (.lst (acc ++ [.bl b]))) ∧ AllB (upd H5 D2 (.lst (acc ++ [.bl b]))) D2 (i * 3 + (j + 1)) ((∀ i', i' < i → ∀ j, j < k → okA R Bg n i' j) ∧ ∀ j', j' < j + 1 → okA R Bg n i j') := fun bb hbb => by
          refine ab5.push (R := fun H' => Same H H' ∧ AllB H' D2 (i * 3 + (j + 1)) ((∀ i', i' < i → ∀ j, j < k → okA R Bg n i' j) ∧ ∀ j', j' < j + 1 → okA R Bg n i j')) (p := okA R Bg n i j) (by omega) (hbb.trans okI.symm) fun acc ab => ⟨(sm5.put (sm1.free nD2)), ab.iff ⟨fun h => ⟨h.1.1, fun j' hj' => ?_⟩, fun h => ⟨⟨h.1, fun j' hj' => h.2 j' (by omega)⟩, h.2 j (Nat.lt_succ_self j)⟩⟩ (Nat.le_refl _)⟩
          by_cases hlt : j' < j
          · exact h.1.2 j' hlt
          · have : j' = j := by omega
            rw [this]
            exact h.2
        refine ⟨_, rfl, t, _, rfl, .inr (SqT.of (sm5 _ _ ht')), _, rfl, br, ur, rfl, .inl (SqL.of (sm5 _ _ hbr)), rfl, _, rfl, ?_⟩
        rw [d1]
        by_cases h1 : pr'.length = n
        · refine iT (decide_eq_true h1) ?_
          refine ⟨_, rfl, t, _, rfl, .inr (SqT.of (sm5 _ _ ht')), _, rfl, bq, uq, rfl, .inr (SqT.of (sm5 _ _ hbq)), rfl, ?_⟩
          rw [d2]
          exact fin _ (by simp [h1])
        · refine iF (decide_eq_false h1) ?_
          exact fin false (by simp [h1])
      · rintro H4 ⟨sm4, ab4⟩
        refine ⟨sm4, ab4.iff ⟨fun h i' hi' j hj => ?_, fun h => ⟨fun i' hi' => h i' (by omega), fun j' hj' => h i (Nat.lt_succ_self i) j' (by omega)⟩⟩ (by rw [Nat.add_mul]; omega)⟩
        by_cases hlt : i' < i
        · exact h.1 i' hlt j hj
        · have : i' = i := by omega
          rw [this]
          exact h.2 j (by omega)
    · rintro H2 ⟨sm2, bs, hD2, _, iff1⟩
      refine ⟨D2, bs, rfl, SqL.of hD2, Qk H2 _ sm2 (iff1.trans ⟨fun h => ⟨e1, e2, fun r hr => ?_, fun r hr => ?_⟩, fun h i hi j hj => ⟨fun r hr => h.wr r (List.mem_of_getElem? hr), fun r hr => h.wb r (List.mem_of_getElem? hr)⟩⟩)⟩
      · obtain ⟨j, hj⟩ := List.getElem?_of_mem hr
        have jl := (List.getElem?_eq_some_iff.mp hj).1
        exact (h 0 (by omega) j (by omega)).1 r hj
      · obtain ⟨i, hi⟩ := List.getElem?_of_mem hr
        have il := (List.getElem?_eq_some_iff.mp hi).1
        exact (h i (by omega) 0 (by omega)).2 r hi
/-! sends_hold -/
/-- the sentence, in whole numbers -/
def SEq (s : Int) (p a b : Int × Int) : Prop := (s * p.2 - p.1) * (b.2 * a.2) = (b.1 * a.2 - a.1 * b.2) * p.2
/-- pairs that are not too great, under 1 or more -/
structure Gq (p : Int × Int) : Prop where
  bx : p.1.natAbs < 2 ^ 56
  y0 : 1 ≤ p.2
  by' : p.2.natAbs < 2 ^ 22
theorem Gq.p2 {p : Int × Int} (g : Gq p) : P2 [.int p.1, .int p.2] p.1 p.2 := ⟨rfl, Nat.lt_trans g.bx (Nat.pow_lt_pow_right (by decide) (by decide)), by have := g.y0; omega, Nat.lt_trans g.by' (Nat.pow_lt_pow_right (by decide) (by decide))⟩
theorem low_iff {o u o' u' : Int} (h : 0 < u) (h' : 0 < u') : lowF o u = lowF o' u' ↔ o * u' = o' * u := by
  refine ⟨fun e => ?_, fun e => low_cross h h' e⟩
  obtain ⟨x, y, e1, _, y0, _⟩ := lowB (o := o) h
  have m1 := low_mul h e1
  have m2 := low_mul h' (e.symm.trans e1)
  refine Int.eq_of_mul_eq_mul_right (show y ≠ 0 by omega) ?_
  calc o * u' * y = (o * y) * u' := by rw [Int.mul_assoc, Int.mul_comm u' y, ← Int.mul_assoc]
    _ = (x * u) * u' := by rw [m1]
    _ = (x * u') * u := by rw [Int.mul_assoc, Int.mul_comm u u', ← Int.mul_assoc]
    _ = (o' * y) * u := by rw [m2]
    _ = o' * u * y := by rw [Int.mul_assoc, Int.mul_comm y u, ← Int.mul_assoc]
theorem lowF_ints (o u : Int) : ∃ x y, lowF o u = [.int x, .int y] := ⟨_, _, rfl⟩
theorem pairD_shaped (x y : Int) : SeqAt.shaped (prD (x, y)) = true := by
  show ((prD (x, y)).canLay0 && decide ((prD (x, y)).depth ≤ 64)) = true
  rw [prD_lay]
  rfl
theorem pairD_eqv (x y x' y' : Int) : PyData.eqv (prD (x, y)) (prD (x', y')) = decide (x = x' ∧ y = y') := by
  simp [prD, PyData.eqv, PyData.eqvAll]
  rfl
theorem lowF_eqv {o u o' u' x y x' y' : Int} (e : lowF o u = [.int x, .int y]) (e' : lowF o' u' = [.int x', .int y']) : (PyData.eqv (prD (x, y)) (prD (x', y')) = true) ↔ lowF o u = lowF o' u' := by
  rw [pairD_eqv, e, e']
  simp
end
end Hl

set_option Elab.async false
set_option linter.all false
set_option maxRecDepth 100000
set_option maxHeartbeats 4000000
namespace Hl
open PySem PySem.Spec PyProof.Rows L2
theorem low_one (s : Int) : lowF s 1 = [.int s, .int 1] := by
  have := low_int (s := s) (N := 1) (by decide)
  rw [Int.one_mul] at this
  exact this.symm
section
variable {P : Program} {w : World} {K : PySem.W.Frag} {mg : Str → Option Value} {base : Heap}
def spSe : Sp := fun vs H Q _ => ∃ (t1 r h th : Addr) (S : List Int) (ps hs ts : Prs) (n : Nat), vs = [.ref t1, .ref r, .ref h, .ref th] ∧ H t1 = some (.tup (S.map V.int)) ∧ RwAt false H (.ref r) ps ∧ RwAt true H (.ref h) hs ∧ RwAt true H (.ref th) ts ∧ S.length = n ∧ ps.length = n ∧ hs.length = n ∧ ts.length = n ∧ n ≤ 3 ∧
  (∀ s ∈ S, 0 ≤ s ∧ s ≤ 1000000) ∧ (∀ p ∈ ps, Gq p) ∧ (∀ p ∈ hs, Gq p) ∧ (∀ p ∈ ts, Gq p) ∧
  ∀ (H' : Hp) (b : Bool), Same H H' → (b = true ↔ ∀ (j : Nat) (s : Int) (p x y : Int × Int), S[j]? = some s → ps[j]? = some p → hs[j]? = some x → ts[j]? = some y → SEq s p x y) → Q (.bl b) H'
abbrev nmSe : List Str := ["sends", "rates", "here", "there", "many", "rate", "ahead", "behind"]
theorem scSe : FnScope nmSe ["sends", "rates", "here", "there"] (defScope sSe) := ⟨rfl, rfl, rfl, by decide +kernel, rfl, by decide +kernel, by decide +kernel⟩
theorem ok_se {f fL fP : Addr} {fd fdL fdP : FuncData} {ds1 : List Value} {k : Nat} (F : Fun K "sends_hold" "sends_hold" sSe f fd) (B : Bi mg) (J : Bj mg) (Le : Has P w K mg base k "less" ["one", "other"] (spBin K nLess) fL fdL)
    (Pt : Has P w K mg base k "part" ["over", "under"] spPart fP fdP) (b1 : Binds K fdP ["over", "under"] ds1) (v1 : Vals [.int 1] ds1) : FnOk P w K mg base CX0 (k + 1) f fd ["sends", "rates", "here", "there"] spSe := by
  refine F.ok scSe (fun vs H Q E h => ?_) (fun cdv A outer s H vs Q E hr h => ?_)
  · obtain ⟨t1, r, h, th, S, ps, hs, ts, n, rfl, _⟩ := h
    rfl
  · obtain ⟨t1, r, h, th, S, ps, hs, ts, n, rfl, hS, ⟨r', us, er, hr', pr⟩, ⟨h', uh, eh, hh', ph⟩, ⟨th', ut, et, ht', pt⟩, lS, lps, lhs, lts, n3, gS, gp, gh, gt, Qk⟩ := h
    cases er
    cases eh
    cases et
    refine ⟨_, (pss_one (ps_ret (pe_callB (cr_all rfl) (by rfl) B.all (by decide +kernel) (pa_cons (pe_lc (own := [("many", 4), ("rate", 5), ("ahead", 6), ("behind", 7)]) (g := (gTup K 4 (gCons (gName 4) (gCons (gName 5) (gCons (gName 6) (gCons (gName 7) gNil)))))) (tt := tYes) (te := tOp (rEqD K) (tCall (spBin K nLess) [] E0 (tCons (tCall spPart [.int 1] E0 (tCons (tVar 4) tNil)) (tCons (tVar 5) tNil))) (tCall (spBin K nLess) [] E0 (tCons (tVar 7) (tCons (tVar 6) tNil)))) rfl scSe.nd (Zn.pi_zip4 (t1 := true) (t2 := false) (t3 := true) (t4 := true) (by rfl) J.zip (pa_cons (pv 0) (pa_cons (pv 1) (pa_cons (pv 2) (pa_cons (pv 3) pa_nil))))) (blkOk_by (own := [("many", 4), ("rate", 5), ("ahead", 6), ("behind", 7)]) (N := nmSe) (sc := defScope sSe) (by decide +kernel)) (fun _ _ _ _ _ => (pg_tup rfl (pgs_cons (pg_name (i := 4) scSe.nd rfl (Or.inl rfl)) (pgs_cons (pg_name (i := 5) scSe.nd rfl (Or.inl rfl)) (pgs_cons (pg_name (i := 6) scSe.nd rfl (Or.inl rfl)) (pgs_cons (pg_name (i := 7) scSe.nd rfl (Or.inl rfl)) pgs_nil)))))) (fun _ _ _ _ _ => pts_nil) (fun _ _ _ _ _ => (pe_cmpR (op_eqD hr.units) (pe_call Le.G hr (by rfl) Le.g Le.kp Le.b .nil pass0 (pa_cons (pe_call Pt.G hr (by rfl) Pt.g Pt.kp b1 v1 pass0 (pa_cons (pv 4) pa_nil)) (pa_cons (pv 5) pa_nil))) (pe_call Le.G hr (by rfl) Le.g Le.kp Le.b .nil pass0 (pa_cons (pv 7) (pa_cons (pv 6) pa_nil))) (nomark _)))) pa_nil)))), ?_⟩
    have lus := pr.length
    have luh := ph.length
    have lut := pt.length
    have hSq : ∀ H' : Hp, Same H H' → Paired (Zn.SqX K H') [(true, t1), (false, r), (true, h), (true, th)] [S.map V.int, us, uh, ut] := fun H' sm => .cons (Zn.SqX.tup (SqT.of (sm _ _ hS))) (.cons (Zn.SqX.lst (SqL.of (sm _ _ hr'))) (.cons (Zn.SqX.tup (SqT.of (sm _ _ hh'))) (.cons (Zn.SqX.tup (SqT.of (sm _ _ ht'))) .nil)))
    have hlen : ∀ xs ∈ [S.map V.int, us, uh, ut], xs.length = n := fun xs hx => by
      simp only [List.mem_cons, List.not_mem_nil, or_false] at hx
      rcases hx with rfl | rfl | rfl | rfl
      · rw [List.length_map, lS]
      · omega
      · omega
      · omega
    let Pj : Nat → Prop := fun j => ∀ (s : Int) (p x y : Int × Int), S[j]? = some s → ps[j]? = some p → hs[j]? = some x → ts[j]? = some y → SEq s p x y
    refine ⟨_, rfl, _, rfl, _, rfl, _, rfl, t1, r, h, th, _, rfl, hSq H (Same.refl _), fun D nD => ?_⟩
    refine Zn.lc_zipN (K := K) (L := [S.map V.int, us, uh, ut]) (n := n) hlen (fun i H' => Same H H' ∧ AllB H' D i (∀ j, j < i → Pj j)) ⟨same_upd nD, AllB.nil.iff ⟨fun _ j h => absurd h (Nat.not_lt_zero _), fun _ => trivial⟩ (Nat.le_refl _)⟩ (fun i H' ⟨sm, _⟩ => hSq H' sm) ?_ ?_
    · rintro i vs T H1 hi pv' ⟨sm1, ab1⟩ nT
      match vs, pv' with
      | [_, _, _, _], .cons f1 (.cons f2 (.cons f3 (.cons f4 .nil))) =>
      obtain ⟨s, gs, rfl⟩ := map_int_get f1
      obtain ⟨p, gps, cp, rfl, hcp⟩ := paired_get pr i _ f2
      obtain ⟨x, ghs, cx, rfl, hcx⟩ := paired_get ph i _ f3
      obtain ⟨y, gts, cy, rfl, hcy⟩ := paired_get pt i _ f4
      have sT := same_upd (o := .tup [.int s, .ref cp, .ref cx, .ref cy]) nT
      refine ⟨T, _, rfl, SqT.of upd_same, rfl, _, _, rfl, _, _, rfl, _, _, rfl, _, _, rfl, rfl, ?_⟩
      refine ⟨rfl, ?_⟩
      have sm2 := sm1.trans sT
      have ab2 := ab1.same sT
      generalize (upd H1 T (.tup [.int s, .ref cp, .ref cx, .ref cy])) = H2 at *
      obtain ⟨s0, s1⟩ := gS s (List.mem_of_getElem? gs)
      have Gp' := gp p (List.mem_of_getElem? gps)
      have Gx := gh x (List.mem_of_getElem? ghs)
      have Gy := gt y (List.mem_of_getElem? gts)
      refine ⟨_, rfl, s, 1, rfl, by decide, lt9000 (a := 10) (by decide) (by decide), fun g ng => ?_⟩
      have sg := same_upd (o := .tup (lowF s 1)) ng
      have hg : (upd H2 g (.tup (lowF s 1))) g = some (.tup [.int s, .int 1]) := by rw [upd_same, low_one]
      have sm3 := sm2.trans sg
      generalize (upd H2 g (.tup (lowF s 1))) = H3 at *
      have Ps : P2 [.int s, .int 1] s 1 := ⟨rfl, by rw [e100]; omega, by decide, by decide⟩
      refine ⟨_, rfl, g, cp, _, _, s, 1, p.1, p.2, rfl, SqT.of hg, SqT.of (sm3 _ _ hcp), Ps, Gp'.p2, fun H4 d4 sm4 nd4 hd4 => ?_⟩
      have sm5 := sm3.trans sm4
      refine ⟨_, rfl, _, rfl, cy, cx, _, _, y.1, y.2, x.1, x.2, rfl, SqT.of (sm5 _ _ hcy), SqT.of (sm5 _ _ hcx), Gy.p2, Gx.p2, fun H6 d6 sm6 nd6 hd6 => ?_⟩
      obtain ⟨a1, a2, ea⟩ := lowF_ints (nLess s 1 p.1 p.2) (1 * p.2)
      obtain ⟨b1', b2, eb⟩ := lowF_ints (nLess y.1 y.2 x.1 x.2) (y.2 * x.2)
      have ha := sm6 _ _ hd4
      rw [ea] at ha
      have hb := hd6
      rw [eb] at hb
      refine ⟨prD (a1, a2), prD (b1', b2), PrAt.dp ⟨d4, rfl, ha⟩, PrAt.dp ⟨d6, rfl, hb⟩, pairD_shaped _ _, pairD_shaped _ _, ?_⟩
      have p0 : 0 < p.2 := by have := Gp'.y0; omega
      have x0 : 0 < x.2 := by have := Gx.y0; omega
      have y0 : 0 < y.2 := by have := Gy.y0; omega
      have ab6 := ((ab2.same sg).same sm4).same sm6
      refine ab6.push (R := fun H' => Same H H' ∧ AllB H' D (i + 1) (∀ j, j < i + 1 → Pj j)) (p := Pj i) (by omega) ?_ fun acc ab => ⟨((sm5.trans sm6).put nD), ab.iff ⟨fun hh j hj => ?_, fun hh => ⟨fun j hj => hh j (by omega), hh i (Nat.lt_succ_self i)⟩⟩ (Nat.le_refl _)⟩
      · rw [lowF_eqv ea eb, low_iff (by rw [Int.one_mul]; exact p0) (Int.mul_pos y0 x0)]
        have e1 : nLess s 1 p.1 p.2 = s * p.2 - p.1 := by
          show s * p.2 - p.1 * 1 = _
          rw [Int.mul_one]
        have e2 : nLess y.1 y.2 x.1 x.2 = y.1 * x.2 - x.1 * y.2 := rfl
        rw [e1, e2, Int.one_mul]
        exact ⟨fun hh s' p' x' y' g1 g2 g3 g4 => by
          rw [gs] at g1
          rw [gps] at g2
          rw [ghs] at g3
          rw [gts] at g4
          cases g1
          cases g2
          cases g3
          cases g4
          exact hh, fun hh => hh s p x y gs gps ghs gts⟩
      · by_cases hlt : j < i
        · exact hh.1 j hlt
        · have : j = i := by omega
          rw [this]
          exact hh.2
    · rintro H1 ⟨sm1, bs, hD, _, iff1⟩
      refine ⟨D, bs, rfl, SqL.of hD, Qk H1 _ sm1 (iff1.trans ⟨fun hh j s p x y g1 g2 g3 g4 => hh j ?_ s p x y g1 g2 g3 g4, fun hh j _ s p x y g1 g2 g3 g4 => hh j s p x y g1 g2 g3 g4⟩)⟩
      have := (List.getElem?_eq_some_iff.mp g1).1
      omega
end
end Hl

set_option Elab.async false
set_option linter.all false
set_option maxRecDepth 100000
set_option maxHeartbeats 4000000
namespace Hl
open PySem PySem.Spec PyProof.Rows L2
abbrev sOh : Stmt := topS 14
def at2 (L : List Prs) (i j : Nat) : Option (Int × Int) := (L[i]?).bind fun r => r[j]?
/-- the sentence at all stands, letters, outlets -/
def SeAll (T : Tab) (R Bg : List Prs) : Prop := ∀ (i a : Nat) (e : Ent), getE T i a = some e → ∀ (j : Nat) (s : Int) (p x y : Int × Int), e.2[j]? = some s → at2 R a j = some p → at2 Bg i j = some x → at2 Bg e.1.toNat j = some y → SEq s p x y
/-- what order_holds tells -/
structure OH (T : Tab) (k n : Nat) (R Bg : List Prs) : Prop where
  es : EqStands T k
  am : AsM T k n R Bg
  ur : Un R
  ub : Un Bg
  se : SeAll T R Bg
section
variable {P : Program} {w : World} {K : PySem.W.Frag} {mg : Str → Option Value} {base : Heap}
def spOh : Sp := fun vs H Q _ => ∃ (a r q : Addr) (T : Tab) (k n : Nat) (R Bg : List Prs), vs = [.ref a, .ref r, .ref q] ∧ TabAt H a T ∧ ShW T k n ∧ (∀ row ∈ T, ∀ e ∈ row, ∀ x ∈ e.2, 0 ≤ x ∧ x ≤ 1000000) ∧ 1 ≤ k ∧ k ≤ 3 ∧ n ≤ 3 ∧ LsF false H r R ∧ LsF true H q Bg ∧ R.length ≤ 70 ∧ Bg.length ≤ 70 ∧ L3 R ∧ L3 Bg ∧ Bd 56 22 R ∧ Bd 56 22 Bg ∧
  ∀ (H' : Hp) (b : Bool), Same H H' → (b = true ↔ OH T k n R Bg) → Q (.bl b) H'
abbrev nmOh : List Str := ["rows", "rates", "purses", "stand", "row", "place", "after", "sends"]
theorem scOh : FnScope nmOh ["rows", "rates", "purses"] (defScope sOh) := ⟨rfl, rfl, rfl, by decide +kernel, rfl, by decide +kernel, by decide +kernel⟩
theorem ok_oh {f fS fA fU fE : Addr} {fd fdS fdA fdU fdE : FuncData} {k : Nat} (F : Fun K "order_holds" "order_holds" sOh f fd) (B : Bi mg) (J : Bj mg) (Z : Bz mg) (Sh : Has P w K mg base k "stands_hold" ["rows"] spShd fS fdS) (Am : Has P w K mg base k "as_many" ["rows", "rates", "purses"] spAm fA fdA)
    (Uh : Has P w K mg base k "unders_hold" ["lines"] spUh fU fdU) (Se : Has P w K mg base k "sends_hold" ["sends", "rates", "here", "there"] spSe fE fdE) : FnOk P w K mg base CX0 (k + 1) f fd ["rows", "rates", "purses"] spOh := by
  refine F.ok scOh (fun vs H Q E h => ?_) (fun cdv A outer s H vs Q E hr h => ?_)
  · obtain ⟨a, r, q, T, k, n, R, Bg, rfl, _⟩ := h
    rfl
  · obtain ⟨a, r, q, T, k, n, R, Bg, rfl, ht, shp, sv, k1, k3, n3, hR, hB, lR7, lB7, r3, b3, bdR, bdB, Qk⟩ := h
    refine ⟨_, (pss_cons (ps_if (PW.pt (pw_or (pt_not (pt_val (pe_call Sh.G hr (by rfl) Sh.g Sh.kp Sh.b .nil pass0 (pa_cons (pv 0) pa_nil)))) (pw_or1 (pt_not (pt_val (pe_call Am.G hr (by rfl) Am.g Am.kp Am.b .nil pass0 (pa_cons (pv 0) (pa_cons (pv 1) (pa_cons (pv 2) pa_nil))))))))) (pss_one (ps_ret pe_bl)) pss_nil)
        (pss_cons (ps_if (PW.pt (pw_or (pt_not (pt_val (pe_call Uh.G hr (by rfl) Uh.g Uh.kp Uh.b .nil pass0 (pa_cons (pv 1) pa_nil)))) (pw_or1 (pt_not (pt_val (pe_call Uh.G hr (by rfl) Uh.g Uh.kp Uh.b .nil pass0 (pa_cons (pv 2) pa_nil))))))) (pss_one (ps_ret pe_bl)) pss_nil)
        (pss_one (ps_ret (pe_callB (cr_all rfl) (by rfl) B.all (by decide +kernel) (pa_cons (pe_lc2 (own := [("stand", 3), ("row", 4), ("place", 5), ("after", 6), ("sends", 7)]) (vs1 := [5, 6, 7]) (g := (gTup K 2 (gCons (gName 3) (gCons (gName 4) gNil)))) (g1 := (gTup K 2 (gCons (gName 5) (gCons (gTup K 2 (gCons (gName 6) (gCons (gName 7) gNil))) gNil)))) (tt := tYes) (tt1 := tYes) (wi1 := iEnum K (tCons (tVar 4) tNil)) (te := tCall spSe [] E0 (tCons (tVar 7) (tCons (tOp (rIxL K) (tVar 1) (tVar 5)) (tCons (tOp (rIxL K) (tVar 2) (tVar 3)) (tCons (tOp (rIxL K) (tVar 2) (tVar 6)) tNil))))) rfl scOh.nd (pi_enum (by rfl) Z.en (pa_cons (pv 0) pa_nil)) (blkOk_by (own := [("stand", 3), ("row", 4), ("place", 5), ("after", 6), ("sends", 7)]) (N := nmOh) (sc := defScope sOh) (by decide +kernel)) (by decide)
      (fun _ _ _ _ _ => (pg_tup rfl (pgs_cons (pg_name (i := 3) scOh.nd rfl (Or.inl rfl)) (pgs_cons (pg_name (i := 4) scOh.nd rfl (Or.inl rfl)) pgs_nil)))) (fun _ _ _ _ _ => pts_nil) (fun _ _ _ _ _ => (pi_enum (by rfl) Z.en (pa_cons (pv 4) pa_nil))) (fun _ _ _ _ _ => (pg_tup rfl (pgs_cons (pg_name (i := 5) scOh.nd rfl (Or.inl rfl)) (pgs_cons (pg_tup rfl (pgs_cons (pg_name (i := 6) scOh.nd rfl (Or.inl rfl)) (pgs_cons (pg_name (i := 7) scOh.nd rfl (Or.inl rfl)) pgs_nil))) pgs_nil)))) (fun _ _ _ _ _ => pts_nil) (fun _ _ _ _ _ => (pe_call Se.G hr (by rfl) Se.g Se.kp Se.b .nil pass0 (pa_cons (pv 7) (pa_cons (pe_ix (r := rIxL K) ix_list (pv 1) (pv 5) (fun _ _ => rfl)) (pa_cons (pe_ix (r := rIxL K) ix_list (pv 2) (pv 3) (fun _ _ => rfl)) (pa_cons (pe_ix (r := rIxL K) ix_list (pv 2) (pv 6) (fun _ _ => rfl)) pa_nil))))))) pa_nil)))))), ?_⟩
    have n60 := shp.n60
    have n1 := shp.n1
    have no : ∀ {H' : Hp}, Same H H' → ¬ OH T k n R Bg → Q (.bl false) H' := fun sm h => Qk _ false sm ⟨(fun z => Bool.noConfusion z), fun z => absurd z h⟩
    refine ⟨_, rfl, a, T, k, n, rfl, ht, shp, k3, fun H1 c1 sm1 i1 => ⟨_, rfl, ?_⟩⟩
    cases c1 with
    | false => exact iT rfl (no sm1 fun z => by have := i1.mpr z.es; cases this)
    | true =>
    have es := i1.mp rfl
    refine iF rfl ?_
    refine ⟨_, rfl, _, rfl, _, rfl, a, r, q, T, k, n, R, Bg, rfl, ht.same sm1, shp, k1, k3, hR.same sm1, hB.same sm1, fun H2 c2 sm2 i2 => ⟨_, rfl, ?_⟩⟩
    have s2 := sm1.trans sm2
    cases c2 with
    | false => exact iT rfl (no s2 fun z => by have := i2.mpr z.am; cases this)
    | true =>
    have am := i2.mp rfl
    refine iF rfl ?_
    refine ⟨_, rfl, r, false, R, rfl, hR.same s2, lR7, r3, fun H3 c3 sm3 i3 => ⟨_, rfl, ?_⟩⟩
    have s3 := s2.trans sm3
    cases c3 with
    | false => exact iT rfl (no s3 fun z => by have := i3.mpr z.ur; cases this)
    | true =>
    have ur := i3.mp rfl
    refine iF rfl ?_
    refine ⟨_, rfl, q, true, Bg, rfl, hB.same s3, lB7, b3, fun H4 c4 sm4 i4 => ⟨_, rfl, ?_⟩⟩
    have s4 := s3.trans sm4
    cases c4 with
    | false => exact iT rfl (no s4 fun z => by have := i4.mpr z.ub; cases this)
    | true =>
    have ub := i4.mp rfl
    refine iF rfl ?_
    have gq : ∀ {L : List Prs}, Bd 56 22 L → Un L → ∀ r ∈ L, ∀ p ∈ r, Gq p := fun bd un r hr p hp => ⟨(bd r hr p hp).1, un r hr p hp, (bd r hr p hp).2⟩
    obtain ⟨vs, hv, lv, rows⟩ := tab_row (K := K) ht
    obtain ⟨vr, hvr, prr⟩ := id hR
    obtain ⟨vq, hvq, prq⟩ := id hB
    have lvr := prr.length
    have lvq := prq.length
    have alr := am.lr
    have alb := am.lb
    let Pi : Nat → Nat → Prop := fun i a => ∀ e, getE T i a = some e → ∀ (j : Nat) (s : Int) (p x y : Int × Int), e.2[j]? = some s → at2 R a j = some p → at2 Bg i j = some x → at2 Bg e.1.toNat j = some y → SEq s p x y
    refine ⟨_, rfl, a, vs, rfl, SqL.of (s4 _ _ hv), fun D nD => ?_⟩
    have nDH : H D = none := s4.free nD
    refine w_enum (K := K) (a := a) (xs := vs) (fun i H' => Same H H' ∧ AllB H' D (i * 3) (∀ i', i' < i → ∀ a, a < k → Pi i' a)) ⟨s4.trans (same_upd nD), AllB.nil.iff ⟨fun _ i' h => absurd h (Nat.not_lt_zero _), fun _ => trivial⟩ (by omega)⟩ (fun i H' ⟨sm, _⟩ => SqL.of (sm _ _ hv)) ?_ ?_
    · rintro i x T' H5 hx ⟨sm5, ab5⟩ nT
      obtain ⟨row, b, us, hrow, rfl, hb, lus, ents⟩ := rows i x hx
      have il := (List.getElem?_eq_some_iff.mp hrow).1
      have rl := shp.rl row (List.mem_of_getElem? hrow)
      have sT := same_upd (o := .tup [.int (i : Nat), .ref b]) nT
      refine ⟨T', _, rfl, SqT.of upd_same, rfl, _, _, rfl, _, _, rfl, rfl, ?_⟩
      have sm6 := sm5.trans sT
      have ab6 := ab5.same sT
      generalize (upd H5 T' (.tup [.int (i : Nat), .ref b])) = H6 at *
      refine ⟨by rw [wipe_set (by decide), wipe_set (by decide), wipe_wipe], ?_⟩
      refine ⟨_, rfl, b, us, rfl, SqL.of (sm6 _ _ hb), ?_⟩
      refine w_enum (K := K) (a := b) (xs := us) (fun j H' => Same H H' ∧ AllB H' D (i * 3 + j) ((∀ i', i' < i → ∀ a, a < k → Pi i' a) ∧ ∀ a, a < j → Pi i a)) ⟨sm6, ab6.iff ⟨fun h => ⟨h, fun j' h => absurd h (Nat.not_lt_zero _)⟩, fun h => h.1⟩ (by omega)⟩ (fun j H' ⟨sm, _⟩ => SqL.of (sm _ _ hb)) ?_ ?_
      · rintro pl u T2 H7 hu ⟨sm7, ab7⟩ nT2
        obtain ⟨e', c, t, he, rfl, hc, ht'⟩ := ents pl u hu
        have pll := (List.getElem?_eq_some_iff.mp he).1
        have ein := List.mem_of_getElem? he
        have rin := List.mem_of_getElem? hrow
        have sl := shp.sl row rin e' ein
        obtain ⟨tn, etn, tl⟩ := shp.nx row rin e' ein
        have ge : getE T i pl = some e' := by
          unfold getE
          rw [hrow]
          exact he
        have sT2 := same_upd (o := .tup [.int (pl : Nat), .ref c]) nT2
        have sm8 := sm7.trans sT2
        have ab8 := ab7.same sT2
        refine ⟨T2, _, rfl, SqT.of upd_same, rfl, _, _, rfl, _, _, rfl, c, _, rfl, SqT.of (sm8 _ _ hc), rfl, _, _, rfl, _, _, rfl, rfl, rfl, ?_⟩
        generalize (upd H7 T2 (.tup [.int (pl : Nat), .ref c])) = H8 at *
        refine ⟨by rw [wipe_set (by decide), wipe_set (by decide), wipe_set (by decide), wipe_wipe], ?_⟩
        have g1 : R[pl]? = some (R[pl]'(by omega)) := List.getElem?_eq_getElem (by omega)
        have g2 : Bg[i]? = some (Bg[i]'(by omega)) := List.getElem?_eq_getElem (by omega)
        have g3 : Bg[tn]? = some (Bg[tn]'(by omega)) := List.getElem?_eq_getElem (by omega)
        obtain ⟨w1, hw1, rw1⟩ := paired_get2 prr pl _ g1
        obtain ⟨w2, hw2, rw2⟩ := paired_get2 prq i _ g2
        obtain ⟨w3, hw3, rw3⟩ := paired_get2 prq tn _ g3
        have m1 : R[pl]'(by omega) ∈ R := List.getElem_mem _
        have m2 : Bg[i]'(by omega) ∈ Bg := List.getElem_mem _
        have m3 : Bg[tn]'(by omega) ∈ Bg := List.getElem_mem _
        generalize R[pl]'(by omega) = ps at *
        generalize Bg[i]'(by omega) = hs at *
        generalize Bg[tn]'(by omega) = ts at *
        obtain ⟨a1, u1, ew1, ha1, q1⟩ := id rw1
        obtain ⟨a2, u2, ew2, ha2, q2⟩ := id rw2
        obtain ⟨a3, u3, ew3, ha3, q3⟩ := id rw3
        rw [ew1] at hw1 rw1
        rw [ew2] at hw2 rw2
        rw [ew3] at hw3 rw3
        have z1 : ∀ j, at2 R pl j = ps[j]? := fun j => by unfold at2; rw [g1]; rfl
        have z2 : ∀ j, at2 Bg i j = hs[j]? := fun j => by unfold at2; rw [g2]; rfl
        have z3 : ∀ j, at2 Bg e'.1.toNat j = ts[j]? := fun j => by unfold at2; rw [etn, Int.toNat_natCast, g3]; rfl
        refine ⟨_, rfl, _, rfl, _, rfl, r, vr, _, _, rfl, rfl, SqL.of (sm8 _ _ hvr), atI_nat (j := pl) hw1, _, rfl, _, rfl, q, vq, _, _, rfl, rfl, SqL.of (sm8 _ _ hvq), atI_nat (j := i) hw2, ?_⟩
        refine ⟨_, rfl, _, rfl, q, vq, _, _, rfl, rfl, SqL.of (sm8 _ _ hvq), (by rw [etn]; exact atI_nat (j := tn) hw3), ?_⟩
        refine ⟨t, a1, a2, a3, e'.2, ps, hs, ts, n, rfl, sm8 _ _ ht', rw1.same sm8, rw2.same sm8, rw3.same sm8, sl, am.wr ps m1, am.wb hs m2, am.wb ts m3, n3, sv row rin e' ein, gq bdR ur ps m1, gq bdB ub hs m2, gq bdB ub ts m3, fun H9 b9 sm9 i9 => ?_⟩
        have ab9 := ab8.same sm9
        refine ab9.push (R := fun H' => Same H H' ∧ AllB H' D (i * 3 + (pl + 1)) ((∀ i', i' < i → ∀ a, a < k → Pi i' a) ∧ ∀ a, a < pl + 1 → Pi i a)) (p := Pi i pl) (by omega) (i9.trans ⟨fun h e2 ge2 j s p x y x1 x2 x3 x4 => ?_, fun h j s p x y x1 x2 x3 x4 => ?_⟩) fun acc ab => ⟨(sm8.trans sm9).put nDH, ab.iff ⟨fun h => ⟨h.1.1, fun j' hj' => ?_⟩, fun h => ⟨⟨h.1, fun j' hj' => h.2 j' (by omega)⟩, h.2 pl (Nat.lt_succ_self pl)⟩⟩ (Nat.le_refl _)⟩
        · rw [ge] at ge2
          cases Option.some.inj ge2
          rw [z1] at x2
          rw [z2] at x3
          rw [z3] at x4
          exact h j s p x y x1 x2 x3 x4
        · exact h e' ge j s p x y x1 (by rw [z1]; exact x2) (by rw [z2]; exact x3) (by rw [z3]; exact x4)
        · by_cases hlt : j' < pl
          · exact h.1.2 j' hlt
          · have : j' = pl := by omega
            rw [this]
            exact h.2
      · rintro H7 ⟨sm7, ab7⟩
        refine ⟨sm7, ab7.iff ⟨fun h i' hi' a ha => ?_, fun h => ⟨fun i' hi' => h i' (by omega), fun a ha => h i (Nat.lt_succ_self i) a (by omega)⟩⟩ (by rw [Nat.add_mul]; omega)⟩
        by_cases hlt : i' < i
        · exact h.1 i' hlt a ha
        · have : i' = i := by omega
          rw [this]
          exact h.2 a (by omega)
    · rintro H5 ⟨sm5, bs, hD5, _, iff5⟩
      refine ⟨D, bs, rfl, SqL.of hD5, Qk H5 _ sm5 (iff5.trans ⟨fun h => ⟨es, am, ur, ub, fun i a e ge => ?_⟩, fun h i _ a _ e ge => h.se i a e ge⟩)⟩
      obtain ⟨row, hr', he'⟩ := getE_row ge
      have il := (List.getElem?_eq_some_iff.mp hr').1
      have al := (List.getElem?_eq_some_iff.mp he').1
      rw [shp.rl row (List.mem_of_getElem? hr')] at al
      exact h i (by omega) a al e ge
end
end Hl

set_option Elab.async false
set_option linter.all false
set_option maxRecDepth 100000
set_option maxHeartbeats 4000000
namespace Hl
open PySem PySem.Spec PyProof.Rows L2
abbrev sHo : Stmt := topS 41
/-- expressions within _law_holds -/
def forB : Stmt → Nat → Stmt
  | .For _ _ b _ _, i => b.getD i (.Pass ⟨0, 0, 0, 0⟩)
  | s, _ => s
def ifA : Stmt → Expr
  | .If (.Call _ (e :: _) _ _) _ _ _ => e
  | _ => .Constant .none 0 ⟨0, 0, 0, 0⟩
def dispV : Stmt → Nat → Expr
  | .Assign _ (.Dict _ vs _) _, i => vs.getD i (.Constant .none 0 ⟨0, 0, 0, 0⟩)
  | _, _ => .Constant .none 0 ⟨0, 0, 0, 0⟩
abbrev scHo1 : Scope := lcScope (ifA (forB ((defBody sHo).getD 0 (.Pass ⟨0, 0, 0, 0⟩)) 1))
abbrev scHo2 : Scope := lcScope (dispV ((defBody sHo).getD 2 (.Pass ⟨0, 0, 0, 0⟩)) 2)
/-- shape and unders of lists of parts -/
structure SU (L : List Prs) (m n : Nat) : Prop where
  l : L.length = m
  w : ∀ r ∈ L, r.length = n
  u : Un L
/-- lists of truth values, none of them true -/
def NoB (H : Hp) (D : Addr) (m : Nat) (P : Prop) : Prop := ∃ bs : List Bool, H D = some (.lst (bs.map V.bl)) ∧ bs.length ≤ m ∧ (bs.any id = false ↔ P)
theorem NoB.nil {H : Hp} {D : Addr} {P : Prop} (p : P) : NoB (upd H D (.lst [])) D 0 P := ⟨[], upd_same, Nat.le_refl _, ⟨fun _ => p, fun _ => rfl⟩⟩
theorem NoB.same {H H' : Hp} {D : Addr} {m : Nat} {P : Prop} (k : Same H H') (h : NoB H D m P) : NoB H' D m P := let ⟨bs, h1, h2⟩ := h; ⟨bs, k _ _ h1, h2⟩
theorem NoB.iff {H : Hp} {D : Addr} {m : Nat} {P P' : Prop} (e : P ↔ P') (h : NoB H D m P) : NoB H D m P' := let ⟨bs, h1, h2, h3⟩ := h; ⟨bs, h1, h2, h3.trans e⟩
theorem NoB.push {H : Hp} {D : Addr} {m : Nat} {P p : Prop} {b : Bool} {R : Hp → Prop} (h : NoB H D m P) (hm : m < 1000) (hb : b = false ↔ p) (q : ∀ acc, NoB (upd H D (.lst acc)) D (m + 1) (P ∧ p) → R (upd H D (.lst acc))) : ∃ acc, H D = some (.lst acc) ∧ acc.length < sizeLine ∧ R (upd H D (.lst (acc ++ [.bl b]))) := by
  obtain ⟨bs, h1, h2, h3⟩ := h
  refine ⟨_, h1, by rw [List.length_map]; exact small1000 (by omega), q _ ⟨bs ++ [b], by rw [upd_same, List.map_append]; rfl, by rw [List.length_append]; exact Nat.succ_le_succ h2, ?_⟩⟩
  rw [List.any_append, Bool.or_eq_false_iff, h3]
  simp [hb]
theorem take_all {L : List Prs} {j : Nat} {ps : Prs} {p : Prs → Prop} (h : L[j]? = some ps) : ((∀ r ∈ L.take j, p r) ∧ p ps) ↔ ∀ r ∈ L.take (j + 1), p r := by
  rw [List.take_add_one, h]
  constructor
  · rintro ⟨h1, h2⟩ r hr
    rcases List.mem_append.mp hr with z | z
    · exact h1 r z
    · have : r = ps := by simpa using z
      rw [this]
      exact h2
  · intro h1
    exact ⟨fun r hr => h1 r (List.mem_append_left _ hr), h1 ps (List.mem_append_right _ (by simp))⟩
/-- the law's sum against the program's difference -/
theorem seq_law {G h U N s p1 p2 : Int} (h0 : 0 < h) (u0 : 0 < U) (hm : G * U = N * h) : nPlus G h p1 p2 * 1 = s * (h * p2) ↔ (s * p2 - p1) * U = N * p2 := by
  show (G * p2 + p1 * h) * 1 = s * (h * p2) ↔ _
  rw [Int.mul_one]
  have e1 : (G * p2 + p1 * h) * U = (N * p2 + p1 * U) * h := by
    have : G * p2 * U = N * h * p2 := by rw [← hm, Int.mul_right_comm]
    rw [Int.add_mul, Int.add_mul, this, Int.mul_right_comm N h p2, Int.mul_right_comm p1 h U]
  have e2 : s * (h * p2) * U = (s * p2 * U) * h := by
    rw [← Int.mul_assoc, Int.mul_right_comm s h p2, Int.mul_right_comm (s * p2) h U]
  constructor
  · intro e
    have e3 : (N * p2 + p1 * U) * h = (s * p2 * U) * h := by rw [← e1, e, e2]
    have e4 := Int.eq_of_mul_eq_mul_right (by omega) e3
    rw [Int.sub_mul]
    omega
  · intro e
    rw [Int.sub_mul] at e
    have e3 : N * p2 + p1 * U = s * p2 * U := by omega
    refine Int.eq_of_mul_eq_mul_right (show U ≠ 0 by omega) ?_
    rw [e1, e2, e3]
/-- a table without sendings -/
def bareR (row : List Ent) : List Ent := row.map fun e => (e.1, [])
def bareT (T : Tab) : Tab := T.map bareR
theorem bare_get {T : Tab} {i a : Nat} : getE (bareT T) i a = (getE T i a).map fun e => (e.1, []) := by
  unfold getE bareT
  rw [List.getElem?_map]
  cases T[i]? with
  | none => rfl
  | some row =>
    show (bareR row)[a]? = _
    unfold bareR
    rw [List.getElem?_map]
    rfl
theorem bare_two {T : Tab} {i a b : Nat} : two (bareT T) i a b = (st2 T i a b).map fun x => (x, []) := by
  unfold two st2
  rw [bare_get]
  cases getE T i a with
  | none => rfl
  | some e =>
    simp only [Option.map_some, Option.bind_some]
    rw [bare_get]
    cases getE T e.1.toNat b <;> rfl
theorem bare_len {T : Tab} : (bareT T).length = T.length := List.length_map _
theorem bare_iff {T : Tab} {k : Nat} : NoHd (bareT T) k ↔ EqStands T k := by
  have key : ∀ i a b, two (bareT T) i a b = two (bareT T) i b a ↔ st2 T i a b = st2 T i b a := fun i a b => by
    rw [bare_two, bare_two]
    constructor
    · intro h
      have := congrArg (Option.map Prod.fst) h
      simpa [Option.map_map, Function.comp_def] using this
    · intro h
      rw [h]
  constructor
  · intro h i hi p hp
    exact (key i p.1 p.2).mp (h i (by rw [bare_len]; exact hi) p hp)
  · intro h i hi p hp
    exact (key i p.1 p.2).mpr (h i (by rw [bare_len] at hi; exact hi) p hp)
theorem bare_shp {T : Tab} {k n : Nat} (s : ShW T k n) : Shp (bareT T) k 0 := by
  have mem : ∀ row ∈ bareT T, ∃ r ∈ T, row = bareR r := fun row h => by
    obtain ⟨r, hr, e⟩ := List.mem_map.mp h
    exact ⟨r, hr, e.symm⟩
  have memE : ∀ {r : List Ent} {e : Ent}, e ∈ bareR r → ∃ e' ∈ r, e = (e'.1, []) := fun h => by
    obtain ⟨e', he, e2⟩ := List.mem_map.mp h
    exact ⟨e', he, e2.symm⟩
  refine ⟨by rw [bare_len]; exact s.n1, by rw [bare_len]; exact s.n60, fun row h => ?_, fun row h e he => ?_, fun row h e he => ?_, fun row h e he x hx => ?_⟩
  · obtain ⟨r, hr, rfl⟩ := mem row h
    unfold bareR
    rw [List.length_map]
    exact s.rl r hr
  · obtain ⟨r, hr, rfl⟩ := mem row h
    obtain ⟨e', he', rfl⟩ := memE he
    rw [bare_len]
    exact s.nx r hr e' he'
  · obtain ⟨r, hr, rfl⟩ := mem row h
    obtain ⟨e', he', rfl⟩ := memE he
    rfl
  · obtain ⟨r, hr, rfl⟩ := mem row h
    obtain ⟨e', he', rfl⟩ := memE he
    cases hx
abbrev teHo (K : PySem.W.Frag) : TE := tOp (rI0 fun i j => V.bl (decide (i < j))) (tCB (rMin K) (tCons (tOp rCat (tLc (iList K (tVar 12)) (gName 13) tYes (tOp (rIxT K) (tVar 13) (tC (.int 1))) [13]) (tLst (tCons (tC (.int 1)) tNil))) tNil)) (tC (.int 1))
section
variable {P : Program} {w : World} {K : PySem.W.Frag} {mg : Str → Option Value} {base : Heap}
def spHo : Sp := fun vs H Q _ => ∃ (m i o q qs qb : Addr) (ins outs : List Str) (T : Tab) (R Bg : List Prs), vs = [.ref m, .ref qs, .ref qb] ∧ Dev H m i o q ins outs T ∧ ShW T ins.length outs.length ∧ (∀ row ∈ T, ∀ e ∈ row, ∀ x ∈ e.2, 0 ≤ x ∧ x ≤ 1000000) ∧ 1 ≤ ins.length ∧ ins.length ≤ 3 ∧ outs.length ≤ 3 ∧ LsF false H qs R ∧ LsF false H qb Bg ∧ R.length ≤ 70 ∧ Bg.length ≤ 70 ∧ L3 R ∧ L3 Bg ∧ Bd 56 22 R ∧ Bd 56 22 Bg ∧
  ∀ (H' : Hp) (b : Bool), Same H H' → (b = true ↔ OH T ins.length outs.length R Bg) → Q (.bl b) H'
abbrev nmHo : List Str := ["_law_m", "_law_steady", "_law_bags", "_law_lists", "_law_many", "_law_stand", "_law_place", "_law_there", "_law_sends", "_law_at", "_law_gain_here", "_law_bare", "_law_row", "_law_one"]
theorem scHo : FnScope nmHo ["_law_m", "_law_steady", "_law_bags"] (defScope sHo) := ⟨rfl, rfl, rfl, by decide +kernel, rfl, by decide +kernel, by decide +kernel⟩
theorem ok_ho {f fS fH : Addr} {fd fdS fdH : FuncData} {k : Nat} (F : Fun K "_law_holds" "_law_holds" sHo f fd) (B : Bi mg) (J : Bj mg) (Z : Bz mg) (Su : Has P w K mg base k "_law_sum" ["_law_one", "_law_other"] (spBin K nPlus) fS fdS) (Hd : Has P w K mg base k "_law_heeding" ["_law_m"] spHd fH fdH) : FnOk P w K mg base CX0 (k + 1) f fd ["_law_m", "_law_steady", "_law_bags"] spHo := by
  refine F.ok scHo (fun vs H Q E h => ?_) (fun cdv A outer s H vs Q E hr h => ?_)
  · obtain ⟨m, i, o, q, qs, qb, ins, outs, T, R, Bg, rfl, _⟩ := h
    rfl
  · obtain ⟨m, i, o, q, qs, qb, ins, outs, T, R, Bg, rfl, dv, shp, sv, i1, i3, o3, hR, hB, lR7, lB7, r3, b3, bdR, bdB, Qk⟩ := h
    refine ⟨_, (pss_cons (ps_for PassesOwn.never rfl (pi_tup (pe_tup (pa_cons (pe_tup (pa_cons (pv 1) (pa_cons (pe_callB call_len_seq (by rfl) B.len PySem.boot_len (pa_cons (pe_dget (hu_of hr) (pv 0) pe_str (fun _ _ => rfl)) pa_nil)) pa_nil))) (pa_cons (pe_tup (pa_cons (pv 2) (pa_cons (pe_callB call_len_seq (by rfl) B.len PySem.boot_len (pa_cons (pe_dget (hu_of hr) (pv 0) pe_str (fun _ _ => rfl)) pa_nil)) pa_nil))) pa_nil)))) (pg_tup rfl (pgs_cons (pg_name (i := 3) scHo.nd rfl (.inl rfl)) (pgs_cons (pg_name (i := 4) scHo.nd rfl (.inl rfl)) pgs_nil)))
          (pss_cons (ps_if (PW.pt (pw_or (pt_cmpR op_ne (pe_callB call_len_seq (by rfl) B.len PySem.boot_len (pa_cons (pv 3) pa_nil)) (pv 4) (nomark _)) (pw_or1 (pt_val (pe_callB (cr_any rfl) (by rfl) Z.any (by decide +kernel) (pa_cons (pe_lc (own := [("_law_row", 12)]) (g := (gName 12)) (tt := tYes) (te := tOp rNe (tCB (rLenK K) (tCons (tVar 12) tNil)) (tCB (rLenK K) (tCons (tDGet (tVar 0) (tC (.str "outs"))) tNil))) rfl scHo.nd (pi_list (pv 3)) (blkOk_by (own := [("_law_row", 12)]) (N := nmHo) (sc := defScope sHo) (by decide +kernel)) (fun _ _ _ _ _ => (pg_name (i := 12) scHo.nd rfl (Or.inl rfl))) (fun _ _ _ _ _ => pts_nil) (fun _ _ _ _ _ => (pe_cmpR op_ne (pe_callB call_len_seq (by rfl) B.len PySem.boot_len (pa_cons (pv 12) pa_nil)) (pe_callB call_len_seq (by rfl) B.len PySem.boot_len (pa_cons (pe_dget (hu_of hr) (pv 0) pe_str (fun _ _ => rfl)) pa_nil)) (nomark _)))) pa_nil)))))) (pss_one (ps_ret pe_bl)) pss_nil)
        (pss_one (ps_if (pt_val (pe_callB (cr_any rfl) (by rfl) Z.any (by decide +kernel) (pa_cons (pe_lc (own := [("_law_row", 12)]) (g := gName 12) (tt := tYes) (te := teHo K) rfl scHo.nd (pi_list (pv 3)) (blkOk_by (own := [("_law_row", 12)]) (N := nmHo) (sc := defScope sHo) (by decide +kernel)) (fun _ _ _ _ _ => (pg_name (i := 12) scHo.nd rfl (Or.inl rfl))) (fun _ _ _ _ _ => pts_nil) (fun _ _ _ _ _ => (pe_cmpR op_lt (pe_callB (r := rMin K) (cr_min rfl) (by rfl) J.min (by decide +kernel) (pa_cons (pe_op op_cat (pe_lc (own := [("_law_one", 13)]) (g := gName 13) (tt := tYes) rfl scHo.nd (pi_list (pv 12)) (blkOk_by (own := [("_law_one", 13)]) (N := nmHo) (sc := scHo1) (by decide +kernel)) (fun _ _ _ _ _ => (pg_name (i := 13) scHo.nd rfl (Or.inl rfl))) (fun _ _ _ _ _ => pts_nil) (fun _ _ _ _ _ => (pe_ix (r := rIxT K) ix_tup (pv 13) pe_int (fun _ _ => rfl)))) (pe_lst (pa_cons pe_int pa_nil))) pa_nil)) pe_int (nomark _)))) pa_nil))) (pss_one (ps_ret pe_bl)) pss_nil))))
        (pss_cons (ps_for PassesOwn.never rfl (pi_range1 (by rfl) B.rng (pa_cons (pe_callB call_len_seq (by rfl) B.len PySem.boot_len (pa_cons (pe_dget (hu_of hr) (pv 0) pe_str (fun _ _ => rfl)) pa_nil)) pa_nil)) (pg_name (i := 5) scHo.nd rfl (.inl rfl))
          (pss_one (ps_for PassesOwn.never rfl (pi_range1 (by rfl) B.rng (pa_cons (pe_callB call_len_seq (by rfl) B.len PySem.boot_len (pa_cons (pe_dget (hu_of hr) (pv 0) pe_str (fun _ _ => rfl)) pa_nil)) pa_nil)) (pg_name (i := 6) scHo.nd rfl (.inl rfl))
          (pss_cons (ps_asg (pe_ix (r := rIx K) ix_seq (pe_ix (r := rIx K) ix_seq (pe_dget (hu_of hr) (pv 0) pe_str (fun _ _ => rfl)) (pv 5) (fun _ _ => rfl)) (pv 6) (fun _ _ => rfl)) (pg_tup rfl (pgs_cons (pg_name (i := 7) scHo.nd rfl (.inl rfl)) (pgs_cons (pg_name (i := 8) scHo.nd rfl (.inl rfl)) pgs_nil))))
        (pss_one (ps_for PassesOwn.never rfl (pi_range1 (by rfl) B.rng (pa_cons (pe_callB call_len_seq (by rfl) B.len PySem.boot_len (pa_cons (pv 8) pa_nil)) pa_nil)) (pg_name (i := 9) scHo.nd rfl (.inl rfl))
          (pss_cons (ps_set (i := 10) scHo.nd rfl (.inl rfl) (pe_call Su.G hr (by rfl) Su.g Su.kp Su.b .nil pass0 (pa_cons (pe_ix (r := rIxL K) ix_list (pe_ix (r := rIxL K) ix_list (pv 2) (pv 7) (fun _ _ => rfl)) (pv 9) (fun _ _ => rfl)) (pa_cons (pe_tup (pa_cons (pe_op op_sub pe_int (pe_ix (r := rIxT K) ix_tup (pe_ix (r := rIxL K) ix_list (pe_ix (r := rIxL K) ix_list (pv 2) (pv 5) (fun _ _ => rfl)) (pv 9) (fun _ _ => rfl)) pe_int (fun _ _ => rfl))) (pa_cons (pe_ix (r := rIxT K) ix_tup (pe_ix (r := rIxL K) ix_list (pe_ix (r := rIxL K) ix_list (pv 2) (pv 5) (fun _ _ => rfl)) (pv 9) (fun _ _ => rfl)) pe_int (fun _ _ => rfl)) pa_nil))) pa_nil))))
        (pss_one (ps_if (pt_cmpR (op_neD hr.units) (pe_call Su.G hr (by rfl) Su.g Su.kp Su.b .nil pass0 (pa_cons (pv 10) (pa_cons (pe_ix (r := rIxL K) ix_list (pe_ix (r := rIxL K) ix_list (pv 1) (pv 6) (fun _ _ => rfl)) (pv 9) (fun _ _ => rfl)) pa_nil))) (pe_tup (pa_cons (pe_ix (r := rIxT K) ix_tup (pv 8) (pv 9) (fun _ _ => rfl)) (pa_cons pe_int pa_nil))) (nomark _)) (pss_one (ps_ret pe_bl)) pss_nil)))))))))
        (pss_cons (ps_set (i := 11) scHo.nd rfl (.inl rfl) (pe_disp (pps_cons pe_str (pe_dget (hu_of hr) (pv 0) pe_str (fun _ _ => rfl)) (pps_cons pe_str (pe_lst pa_nil) (pps_cons pe_str (pe_lc (own := [("_law_row", 12)]) (g := gName 12) (tt := tYes) (te := tLc (iList K (tVar 12)) (gTup K 2 (gCons (gName 7) (gCons (gName 8) gNil))) tYes (tTup (tCons (tVar 7) (tCons (tTup tNil) tNil))) [7, 8]) rfl scHo.nd (pi_list (pe_dget (hu_of hr) (pv 0) pe_str (fun _ _ => rfl))) (blkOk_by (own := [("_law_row", 12)]) (N := nmHo) (sc := defScope sHo) (by decide +kernel)) (fun _ _ _ _ _ => (pg_name (i := 12) scHo.nd rfl (Or.inl rfl))) (fun _ _ _ _ _ => pts_nil) (fun _ _ _ _ _ => (pe_lc (own := [("_law_there", 7), ("_law_sends", 8)]) (g := gTup K 2 (gCons (gName 7) (gCons (gName 8) gNil))) (tt := tYes) rfl scHo.nd (pi_list (pv 12)) (blkOk_by (own := [("_law_there", 7), ("_law_sends", 8)]) (N := nmHo) (sc := scHo2) (by decide +kernel)) (fun _ _ _ _ _ => (pg_tup rfl (pgs_cons (pg_name (i := 7) scHo.nd rfl (Or.inl rfl)) (pgs_cons (pg_name (i := 8) scHo.nd rfl (Or.inl rfl)) pgs_nil)))) (fun _ _ _ _ _ => pts_nil) (fun _ _ _ _ _ => (pe_tup (pa_cons (pv 7) (pa_cons (pe_tup pa_nil) pa_nil))))))) pps_nil))) (by rfl) (by rfl) (fun z => by cases z) (by decide)))
        (pss_one (ps_ret (pe_cmpR op_isN (pe_call Hd.G hr (by rfl) Hd.g Hd.kp Hd.b .nil pass0 (pa_cons (pv 11) pa_nil)) pe_non (nomark _))))))), ?_⟩
    have n60 := shp.n60
    have n1 := shp.n1
    have li : (ins.map V.str).length = ins.length := List.length_map _
    have lo : (outs.map V.str).length = outs.length := List.length_map _
    have no : ∀ {H' : Hp}, Same H H' → ¬ OH T ins.length outs.length R Bg → Q (.bl false) H' := fun sm h => Qk _ false sm ⟨(fun z => Bool.noConfusion z), fun z => absurd z h⟩
    obtain ⟨vt, hvt, rows0⟩ := id dv.ht
    have lvt := rows0.length
    refine ⟨_, rfl, _, rfl, m, _, rfl, dv.gi, i, _, rfl, .inl (SqL.of dv.hi), (by show 2 ≤ sizeLine; decide), fun t1 m1 => ?_⟩
    have s1 := same_upd (o := .tup [.ref qs, .int (ins.map V.str).length]) m1
    have dv1 := dv.same s1
    refine ⟨_, rfl, _, rfl, m, _, rfl, dv1.gr, q, vt, rfl, .inl (SqL.of (s1 _ _ hvt)), (by show 2 ≤ sizeLine; decide), fun t2 m2 => ?_⟩
    have s2 := same_upd (o := .tup [.ref qb, .int vt.length]) m2
    refine ⟨(by show 2 ≤ sizeLine; decide), fun tt m3 => ?_⟩
    have s3 := same_upd (o := .tup [.ref t1, .ref t2]) m3
    have ht1 : (upd (upd (upd H t1 (.tup [.ref qs, .int (ins.map V.str).length])) t2 (.tup [.ref qb, .int vt.length])) tt (.tup [.ref t1, .ref t2])) t1 = some (.tup [.ref qs, .int (ins.map V.str).length]) := s3 _ _ (s2 _ _ upd_same)
    have ht2 : (upd (upd (upd H t1 (.tup [.ref qs, .int (ins.map V.str).length])) t2 (.tup [.ref qb, .int vt.length])) tt (.tup [.ref t1, .ref t2])) t2 = some (.tup [.ref qb, .int vt.length]) := s3 _ _ upd_same
    have htt : (upd (upd (upd H t1 (.tup [.ref qs, .int (ins.map V.str).length])) t2 (.tup [.ref qb, .int vt.length])) tt (.tup [.ref t1, .ref t2])) tt = some (.tup [.ref t1, .ref t2]) := upd_same
    have s13 := (s1.trans s2).trans s3
    generalize (upd (upd (upd H t1 (.tup [.ref qs, .int (ins.map V.str).length])) t2 (.tup [.ref qb, .int vt.length])) tt (.tup [.ref t1, .ref t2])) = H1 at *
    refine ⟨tt, rfl, ⟨_, SqT.of htt⟩, ?_⟩
    refine for_tup (K := K) (a := tt) (xs := [.ref t1, .ref t2]) (fun c σ H' => ∃ v3 v4 : Option V, σ = [some (.ref m), some (.ref qs), some (.ref qb), v3, v4, none, none, none, none, none, none, none, none, none] ∧ Same H1 H' ∧ (0 < c → SU R ins.length outs.length) ∧ (1 < c → SU Bg T.length outs.length))
      ⟨none, none, rfl, Same.refl _, fun h => absurd h (Nat.lt_irrefl _), fun h => absurd h (by omega)⟩ (fun c σ H' _ ⟨_, _, _, sm, _⟩ => SqT.of (sm _ _ htt)) ?_ ?_
    · rintro c x σ H2 hx ⟨v3, v4, rfl, sm2, su1, su2⟩
      have s02 := s13.trans sm2
      obtain ⟨tp, qL, L, mm, rfl, htp, hL, lL7, l3, rel, imp⟩ : ∃ (tp qL : Addr) (L : List Prs) (mm : Nat), x = .ref tp ∧ H2 tp = some (.tup [.ref qL, .int mm]) ∧ LsF false H2 qL L ∧ L.length ≤ 70 ∧ L3 L ∧ (OH T ins.length outs.length R Bg → SU L mm outs.length) ∧ (SU L mm outs.length → (0 < c + 1 → SU R ins.length outs.length) ∧ (1 < c + 1 → SU Bg T.length outs.length)) := by
        have cl := (List.getElem?_eq_some_iff.mp hx).1
        match c, hx with
        | 0, hx =>
          cases Option.some.inj hx
          exact ⟨t1, qs, R, ins.length, rfl, (by have := sm2 _ _ ht1; rw [li] at this; exact this), hR.same s02, lR7, r3, fun z => ⟨z.am.lr, z.am.wr, z.ur⟩, fun z => ⟨fun _ => z, fun h => absurd h (by omega)⟩⟩
        | 1, hx =>
          cases Option.some.inj hx
          exact ⟨t2, qb, Bg, T.length, rfl, (by have := sm2 _ _ ht2; rw [lvt] at this; exact this), hB.same s02, lB7, b3, fun z => ⟨z.am.lb, z.am.wb, z.ub⟩, fun z => ⟨fun _ => su1 (by omega), fun _ => z⟩⟩
      have noL : ∀ {H' : Hp}, Same H2 H' → ¬ SU L mm outs.length → Q (.bl false) H' := fun sm h => no (s02.trans sm) fun z => h (rel z)
      obtain ⟨vL, hvL, pL⟩ := id hL
      have lvL := pL.length
      refine ⟨tp, _, rfl, SqT.of htp, rfl, _, _, rfl, _, _, rfl, rfl, ?_⟩
      have dv2 := dv.same s02
      refine ⟨_, rfl, qL, vL, rfl, .inl (SqL.of hvL), _, rfl, rfl, _, rfl, ite2 (fun e => ?_) (fun e => ?_)⟩
      · refine noL (Same.refl _) fun z => ?_
        have := z.l
        rw [lvL, this] at e
        simp at e
      have eL : L.length = mm := by
        rw [lvL] at e
        simp at e
        omega
      refine ⟨_, rfl, qL, rfl, ⟨_, SqL.of hvL⟩, fun D nD => ?_⟩
      refine w_lst (K := K) (a := qL) (xs := vL) (fun j H' => Same H2 H' ∧ NoB H' D j (∀ r ∈ L.take j, r.length = outs.length)) ⟨same_upd nD, NoB.nil (fun r hr => by rw [List.take_zero] at hr; cases hr)⟩ (fun j H' ⟨sm, _⟩ => SqL.of (sm _ _ hvL)) ?_ ?_
      · rintro j y H3 hy ⟨sm3, nb3⟩
        obtain ⟨ps, hps, b, us, rfl, hb, pr⟩ := paired_get pL j y hy
        have lus := pr.length
        have jl := (List.getElem?_eq_some_iff.mp hps).1
        have dv3 := dv2.same sm3
        refine ⟨rfl, ?_⟩
        refine ⟨_, rfl, b, us, rfl, .inl (SqL.of (sm3 _ _ hb)), _, rfl, m, _, rfl, dv3.go, o, _, rfl, .inl (SqL.of dv3.ho), rfl, ?_⟩
        refine nb3.push (R := fun H' => Same H2 H' ∧ NoB H' D (j + 1) (∀ r ∈ L.take (j + 1), r.length = outs.length)) (p := ps.length = outs.length) (by omega) ?_ fun acc nb => ⟨sm3.put nD, nb.iff (take_all hps)⟩
        rw [lus, lo]
        by_cases h : ps.length = outs.length
        · rw [h]
          simp
        · have : ¬ V.int (ps.length : Nat) = V.int (outs.length : Nat) := fun z => h (by have := V.int.inj z; omega)
          rw [decide_eq_false this]
          simp [h]
      rintro H3 ⟨sm3, bs, hD3, _, iff3⟩
      rw [lvL, List.take_length] at iff3
      refine ⟨D, bs, rfl, SqL.of hD3, _, rfl, ite2 (fun e => ?_) (fun e => ?_)⟩
      · refine noL sm3 fun z => ?_
        rw [iff3.mpr z.w] at e
        cases e
      have wL := iff3.mp (by cases h : bs.any id with
        | true => exact absurd h e
        | false => rfl)
      have hvL3 := sm3 _ _ hvL
      refine ⟨_, rfl, qL, rfl, ⟨_, SqL.of hvL3⟩, fun D2 nD2 => ?_⟩
      refine w_lst (K := K) (a := qL) (xs := vL) (fun j H' => Same H3 H' ∧ NoB H' D2 j (∀ r ∈ L.take j, ∀ p ∈ r, 1 ≤ p.2)) ⟨same_upd nD2, NoB.nil (fun r hr => by rw [List.take_zero] at hr; cases hr)⟩ (fun j H' ⟨sm, _⟩ => SqL.of (sm _ _ hvL3)) ?_ ?_
      · rintro j y H4 hy ⟨sm4, nb4⟩
        obtain ⟨ps, hps, b, us, rfl, hb, pr⟩ := paired_get pL j y hy
        have lus := pr.length
        have jl := (List.getElem?_eq_some_iff.mp hps).1
        have p3 := l3 ps (List.mem_of_getElem? hps)
        have s24 := sm3.trans sm4
        refine ⟨rfl, ?_⟩
        refine ⟨_, rfl, b, rfl, ⟨_, SqL.of (s24 _ _ hb)⟩, fun D3 nD3 => ?_⟩
        refine lc_list (K := K) (a := b) (xs := us) (fun l H' => Same H4 H' ∧ H' D3 = some (.lst (((ps.take l).map (·.2)).map V.int))) ⟨same_upd nD3, upd_same⟩ (fun l H' _ ⟨sm, _⟩ => SqL.of (sm _ _ (s24 _ _ hb))) ?_ ?_
        · rintro l u H5 hu ⟨sm5, hD5⟩
          obtain ⟨p, hp, cc, rfl, hc⟩ := paired_get pr l u hu
          have ll := (List.getElem?_eq_some_iff.mp hp).1
          refine ⟨rfl, ?_⟩
          refine ⟨_, rfl, cc, _, 1, _, rfl, rfl, SqT.of (sm5 _ _ (s24 _ _ hc)), atI_nat (j := 1) rfl, _, hD5, (by rw [List.length_map, List.length_map, List.length_take]; exact small1000 (by omega)), sm5.put nD3, ?_⟩
          rw [upd_same, List.take_add_one, hp]
          simp
        rintro H5 ⟨sm5, hD5⟩
        rw [lus, List.take_length] at hD5
        refine ⟨(by show 1 ≤ sizeLine; decide), fun z nz => ?_⟩
        have sz := same_upd (o := .lst [.int 1]) nz
        refine ⟨D3, z, _, _, rfl, rfl, sz _ _ hD5, upd_same, (by rw [List.length_map, List.length_map]; exact Nat.le_of_lt (small1000 (by show ps.length + 1 ≤ 1000; omega))), fun g ng => ?_⟩
        have sg := same_upd (o := .lst (((ps.map (·.2)).map V.int) ++ [.int 1])) ng
        have s47 := (sm5.trans sz).trans sg
        refine ⟨g, ps.map (·.2) ++ [1], rfl, SqL.of (by rw [upd_same, List.map_append]; rfl), by simp, fun mn hmn hle => ?_⟩
        have nb7 := (nb4.same s47)
        refine ⟨_, _, rfl, rfl, ?_⟩
        refine nb7.push (R := fun H' => Same H3 H' ∧ NoB H' D2 (j + 1) (∀ r ∈ L.take (j + 1), ∀ p ∈ r, 1 ≤ p.2)) (p := ∀ p ∈ ps, 1 ≤ p.2) (by omega) ⟨fun h p hp => ?_, fun h => ?_⟩ fun acc nb => ⟨(sm4.trans s47).put nD2, nb.iff (take_all hps)⟩
        · have h1 := hle p.2 (List.mem_append_left _ (List.mem_map_of_mem hp))
          have h2 := of_decide_eq_false h
          omega
        · refine decide_eq_false fun hlt => ?_
          rcases List.mem_append.mp hmn with h1 | h1
          · obtain ⟨p, hp, e2⟩ := List.mem_map.mp h1
            have := h p hp
            omega
          · have : mn = 1 := by simpa using h1
            omega
      rintro H4 ⟨sm4, bs2, hD4, _, iff4⟩
      rw [lvL, List.take_length] at iff4
      refine ⟨D2, bs2, rfl, SqL.of hD4, _, rfl, ite2 (fun e2 => ?_) (fun e2 => ?_)⟩
      · refine noL (sm3.trans sm4) fun z => ?_
        rw [iff4.mpr z.u] at e2
        cases e2
      have uL := iff4.mp (by cases h : bs2.any id with
        | true => exact absurd h e2
        | false => rfl)
      obtain ⟨i1', i2'⟩ := imp ⟨eL, wL, uL⟩
      exact ⟨_, _, rfl, sm2.trans (sm3.trans sm4), i1', i2'⟩
    rintro σ H2 ⟨v3, v4, rfl, sm2, su1, su2⟩
    have suR := su1 (by show 0 < 2; decide)
    have suB := su2 (by show 1 < 2; decide)
    have s02 := s13.trans sm2
    have gq : ∀ {L : List Prs}, Bd 56 22 L → Un L → ∀ r ∈ L, ∀ p ∈ r, Gq p := fun bd un r hr p hp => ⟨(bd r hr p hp).1, un r hr p hp, (bd r hr p hp).2⟩
    have dv2 := dv.same s02
    have hvt2 := s02 _ _ hvt
    obtain ⟨vr, hvr, prr⟩ := id hR
    obtain ⟨vb, hvb, prb⟩ := id hB
    have lR := suR.l
    have lB := suB.l
    have ns : ∀ {H' : Hp}, Same H2 H' → ¬ SeAll T R Bg → Q (.bl false) H' := fun sm h => no (s02.trans sm) fun z => h z.se
    let Pj : Nat → Nat → Nat → Prop := fun i a j => ∀ e, getE T i a = some e → ∀ (s : Int) (p x y : Int × Int), e.2[j]? = some s → at2 R a j = some p → at2 Bg i j = some x → at2 Bg e.1.toNat j = some y → SEq s p x y
    refine ⟨_, rfl, m, _, rfl, dv2.gr, q, vt, rfl, .inl (SqL.of hvt2), (vt.length : Int), rfl, by omega, by omega, ?_⟩
    refine for_range (lo := 0) (n := vt.length) (fun st σ H' => ∃ w3 w4 w5 w6 w7 w8 w9 w10 : Option V, σ = [some (.ref m), some (.ref qs), some (.ref qb), w3, w4, w5, w6, w7, w8, w9, w10, none, none, none] ∧ Same H2 H' ∧ ∀ i', i' < st → ∀ a, a < ins.length → ∀ j, j < outs.length → Pj i' a j) ⟨_, _, _, _, _, _, _, _, rfl, Same.refl _, fun i' h => absurd h (Nat.not_lt_zero _)⟩ ?_ ?_
    · rintro st σ H3 hst ⟨w3, w4, w5, w6, w7, w8, w9, w10, rfl, sm3, all3⟩
      have sl : st < T.length := by omega
      rw [show (0 + (st : Int)) = ((st : Nat) : Int) by omega]
      have dv3 := dv2.same sm3
      refine ⟨_, rfl, m, _, rfl, dv3.gi, i, _, rfl, .inl (SqL.of dv3.hi), ((ins.map V.str).length : Int), rfl, by omega, by omega, ?_⟩
      refine for_range (lo := 0) (n := (ins.map V.str).length) (fun pl σ H' => ∃ w6 w7 w8 w9 w10 : Option V, σ = [some (.ref m), some (.ref qs), some (.ref qb), w3, w4, some (.int (st : Nat)), w6, w7, w8, w9, w10, none, none, none] ∧ Same H2 H' ∧ ∀ a, a < pl → ∀ j, j < outs.length → Pj st a j) ⟨_, _, _, _, _, rfl, sm3, fun a h => absurd h (Nat.not_lt_zero _)⟩ ?_ ?_
      · rintro pl σ H4 hpl ⟨w6, w7, w8, w9, w10, rfl, sm4, all4⟩
        have plk : pl < ins.length := by omega
        rw [show (0 + (pl : Int)) = ((pl : Nat) : Int) by omega]
        have dv4 := dv2.same sm4
        obtain ⟨e, tn, ge, etn, tl, sle⟩ := shw_get shp sl plk
        obtain ⟨vs, b, us, c, t, a1, a2, a3, a4, a5, a6⟩ := tab_at (K := K) dv2.ht ge
        obtain ⟨rw_, hrw, erw⟩ := getE_mem ge
        rw [etn] at a5
        have lev : (e.2.map V.int).length = outs.length := by rw [List.length_map, sle]
        refine ⟨_, rfl, m, _, rfl, dv4.gr, _, rfl, .inl ⟨q, vs, _, _, rfl, rfl, SqL.of (sm4 _ _ a1), atI_nat (j := st) a2, _, rfl, .inl ⟨b, us, _, _, rfl, rfl, SqL.of (sm4 _ _ a3), atI_nat (j := pl) a4, c, _, rfl, SqT.of (sm4 _ _ a5), rfl, _, _, rfl, _, _, rfl, rfl, ?_⟩⟩⟩
        refine ⟨_, rfl, t, _, rfl, .inr (SqT.of (sm4 _ _ a6)), ((e.2.map V.int).length : Int), rfl, by omega, by omega, ?_⟩
        have g1 : R[pl]? = some (R[pl]'(by omega)) := List.getElem?_eq_getElem (by omega)
        have g2 : Bg[st]? = some (Bg[st]'(by omega)) := List.getElem?_eq_getElem (by omega)
        have g3 : Bg[tn]? = some (Bg[tn]'(by omega)) := List.getElem?_eq_getElem (by omega)
        obtain ⟨x1, hx1, b1, u1, ew1, hb1, q1⟩ := paired_get2 prr pl _ g1
        obtain ⟨x2, hx2, b2, u2, ew2, hb2, q2⟩ := paired_get2 prb st _ g2
        obtain ⟨x3, hx3, b3, u3, ew3, hb3, q3⟩ := paired_get2 prb tn _ g3
        have m1 : R[pl]'(by omega) ∈ R := List.getElem_mem _
        have m2 : Bg[st]'(by omega) ∈ Bg := List.getElem_mem _
        have m3 : Bg[tn]'(by omega) ∈ Bg := List.getElem_mem _
        generalize R[pl]'(by omega) = ps at *
        generalize Bg[st]'(by omega) = hs at *
        generalize Bg[tn]'(by omega) = ts at *
        subst ew1 ew2 ew3
        have l1 := suR.w ps m1
        have l2 := suB.w hs m2
        have l3 := suB.w ts m3
        have z1 : ∀ j, at2 R pl j = ps[j]? := fun j => by unfold at2; rw [g1]; rfl
        have z2 : ∀ j, at2 Bg st j = hs[j]? := fun j => by unfold at2; rw [g2]; rfl
        have z3 : ∀ j, at2 Bg e.1.toNat j = ts[j]? := fun j => by unfold at2; rw [etn, Int.toNat_natCast, g3]; rfl
        refine for_range (lo := 0) (n := (e.2.map V.int).length) (fun j σ H' => ∃ w9 w10 : Option V, σ = [some (.ref m), some (.ref qs), some (.ref qb), w3, w4, some (.int (st : Nat)), some (.int (pl : Nat)), some (.int (tn : Nat)), some (.ref t), w9, w10, none, none, none] ∧ Same H2 H' ∧ ∀ j', j' < j → Pj st pl j') ⟨_, _, rfl, sm4, fun j' h => absurd h (Nat.not_lt_zero _)⟩ ?_ ?_
        · rintro j σ H5 hj ⟨w9, w10, rfl, sm5, all5⟩
          have jl : j < outs.length := by omega
          rw [show (0 + (j : Int)) = ((j : Nat) : Int) by omega]
          have s05 := s02.trans sm5
          have gs : e.2[j]? = some (e.2[j]'(by omega)) := List.getElem?_eq_getElem (by omega)
          have gp : ps[j]? = some (ps[j]'(by omega)) := List.getElem?_eq_getElem (by omega)
          have gx : hs[j]? = some (hs[j]'(by omega)) := List.getElem?_eq_getElem (by omega)
          have gy : ts[j]? = some (ts[j]'(by omega)) := List.getElem?_eq_getElem (by omega)
          obtain ⟨k1, hk1, c1, f1, hc1⟩ := paired_get2 q1 j _ gp
          obtain ⟨k2, hk2, c2, f2, hc2⟩ := paired_get2 q2 j _ gx
          obtain ⟨k3, hk3, c3, f3, hc3⟩ := paired_get2 q3 j _ gy
          have Gp' := gq bdR suR.u ps m1 _ (List.mem_of_getElem? gp)
          have Gx := gq bdB suB.u hs m2 _ (List.mem_of_getElem? gx)
          have Gy := gq bdB suB.u ts m3 _ (List.mem_of_getElem? gy)
          have sb := sv rw_ hrw e erw _ (List.mem_of_getElem? gs)
          generalize e.2[j]'(by omega) = sd at *
          generalize ps[j]'(by omega) = p at *
          generalize hs[j]'(by omega) = x at *
          generalize ts[j]'(by omega) = y at *
          subst f1 f2 f3
          have gsv : (e.2.map V.int)[j]? = some (.int sd) := by rw [List.getElem?_map, gs]; rfl
          have p0 : 0 < p.2 := by have := Gp'.y0; omega
          have x0 : 0 < x.2 := by have := Gx.y0; omega
          have y0 : 0 < y.2 := by have := Gy.y0; omega
          -- bags[there][at]
          refine ⟨_, rfl, _, rfl, qb, _, _, _, rfl, rfl, SqL.of (s05 _ _ hvb), atI_nat (j := tn) hx3, _, rfl, b3, _, _, _, rfl, rfl, SqL.of (s05 _ _ hb3), atI_nat (j := j) hk3, ?_⟩
          refine ⟨_, rfl, _, rfl, qb, _, _, _, rfl, rfl, SqL.of (s05 _ _ hvb), atI_nat (j := st) hx2, _, rfl, b2, _, _, _, rfl, rfl, SqL.of (s05 _ _ hb2), atI_nat (j := j) hk2, c2, _, 0, _, rfl, rfl, SqT.of (s05 _ _ hc2), atI_nat (j := 0) rfl, _, _, rfl, rfl, ?_⟩
          refine ⟨_, rfl, _, rfl, qb, _, _, _, rfl, rfl, SqL.of (s05 _ _ hvb), atI_nat (j := st) hx2, _, rfl, b2, _, _, _, rfl, rfl, SqL.of (s05 _ _ hb2), atI_nat (j := j) hk2, c2, _, 1, _, rfl, rfl, SqT.of (s05 _ _ hc2), atI_nat (j := 1) rfl, (by show 2 ≤ sizeLine; decide), fun g ng => ?_⟩
          have sg := same_upd (o := .tup [.int (0 - x.1), .int x.2]) ng
          have Pn : P2 [.int (0 - x.1), .int x.2] (0 - x.1) x.2 := ⟨rfl, by have := Gx.p2.bx; omega, x0, Gx.p2.by'⟩
          refine ⟨c3, g, _, _, y.1, y.2, 0 - x.1, x.2, rfl, SqT.of (sg _ _ (s05 _ _ hc3)), SqT.of upd_same, Gy.p2, Pn, fun H6 d6 sm6 nd6 hd6 => ?_⟩
          have s06 := s05.trans (sg.trans sm6)
          obtain ⟨G, Hh, eG, bG, h0, hH⟩ := lowB (o := nPlus y.1 y.2 (0 - x.1) x.2) (u := y.2 * x.2) (Int.mul_pos y0 x0)
          have nG : nPlus y.1 y.2 (0 - x.1) x.2 = y.1 * x.2 - x.1 * y.2 := by
            show y.1 * x.2 + (0 - x.1) * y.2 = _
            rw [Int.sub_mul, Int.zero_mul]
            omega
          have PG : P2 (lowF (nPlus y.1 y.2 (0 - x.1) x.2) (y.2 * x.2)) G Hh := by
            have e1 : (y.2 * x.2).natAbs < 2 ^ 44 := by
              rw [Int.natAbs_mul]
              exact Nat.lt_of_lt_of_le (Nat.mul_lt_mul'' Gy.by' Gx.by') (by decide)
            have e2 : (y.1 * x.2).natAbs < 2 ^ 78 := by
              rw [Int.natAbs_mul]
              exact Nat.lt_of_lt_of_le (Nat.mul_lt_mul'' Gy.bx Gx.by') (by decide)
            have e3 : (x.1 * y.2).natAbs < 2 ^ 78 := by
              rw [Int.natAbs_mul]
              exact Nat.lt_of_lt_of_le (Nat.mul_lt_mul'' Gx.bx Gy.by') (by decide)
            have e78 : (2 : Nat) ^ 78 = 302231454903657293676544 := by decide
            have e44 : (2 : Nat) ^ 44 = 17592186044416 := by decide
            rw [nG] at bG
            exact ⟨eG, by rw [e100]; omega, h0, by rw [e100]; omega⟩
          refine ⟨_, rfl, _, rfl, _, rfl, qs, _, _, _, rfl, rfl, SqL.of (s06 _ _ hvr), atI_nat (j := pl) hx1, _, rfl, b1, _, _, _, rfl, rfl, SqL.of (s06 _ _ hb1), atI_nat (j := j) hk1, ?_⟩
          refine ⟨d6, c1, _, _, G, Hh, p.1, p.2, rfl, SqT.of hd6, SqT.of (s06 _ _ hc1), PG, Gp'.p2, fun H7 d7 sm7 nd7 hd7 => ?_⟩
          have s07 := s06.trans sm7
          have s57 := (sg.trans sm6).trans sm7
          refine ⟨_, rfl, _, rfl, t, _, _, _, rfl, rfl, SqT.of (s57 _ _ (sm5 _ _ a6)), atI_nat (j := j) gsv, (by show 2 ≤ sizeLine; decide), fun g2 ng2 => ?_⟩
          have sg2 := same_upd (o := .tup [.int sd, .int 1]) ng2
          obtain ⟨r1, r2, er⟩ := lowF_ints (nPlus G Hh p.1 p.2) (Hh * p.2)
          have hd8 := sg2 _ _ hd7
          rw [er] at hd8
          refine ⟨prD (r1, r2), prD (sd, 1), PrAt.dp ⟨d7, rfl, hd8⟩, PrAt.dp ⟨g2, rfl, upd_same⟩, pairD_shaped _ _, pairD_shaped _ _, _, rfl, ?_⟩
          have key : PyData.eqv (prD (r1, r2)) (prD (sd, 1)) = true ↔ SEq sd p x y := by
            rw [lowF_eqv er (low_one sd), low_iff (Int.mul_pos h0 p0) (by decide)]
            rw [nG] at eG
            exact seq_law h0 (Int.mul_pos y0 x0) (low_mul (Int.mul_pos y0 x0) eG)
          have s58 := s57.trans sg2
          refine ite2 (fun e2 => ?_) (fun e2 => ?_)
          · refine ns (sm5.trans s58) fun z => ?_
            have := key.mpr (z st pl e ge j sd p x y gs (by rw [z1]; exact gp) (by rw [z2]; exact gx) (by rw [z3]; exact gy))
            rw [this] at e2
            cases e2
          · have kT : PyData.eqv (prD (r1, r2)) (prD (sd, 1)) = true := by
              cases h : PyData.eqv (prD (r1, r2)) (prD (sd, 1)) with
              | true => rfl
              | false =>
                rw [h] at e2
                exact absurd rfl e2
            refine ⟨_, _, rfl, sm5.trans s58, fun j' hj' => ?_⟩
            by_cases hlt : j' < j
            · exact all5 j' hlt
            · have : j' = j := by omega
              subst this
              intro e' ge' s' p' x' y' y1 y2 y3 y4
              rw [ge] at ge'
              cases Option.some.inj ge'
              rw [gs] at y1
              rw [z1, gp] at y2
              rw [z2, gx] at y3
              rw [z3, gy] at y4
              cases Option.some.inj y1
              cases Option.some.inj y2
              cases Option.some.inj y3
              cases Option.some.inj y4
              exact key.mp kT
        · rintro σ H5 ⟨w9, w10, rfl, sm5, all5⟩
          refine ⟨_, _, _, _, _, rfl, sm5, fun a ha j hj => ?_⟩
          by_cases hlt : a < pl
          · exact all4 a hlt j hj
          · have : a = pl := by omega
            rw [this]
            exact all5 j (by omega)
      · rintro σ H4 ⟨w6, w7, w8, w9, w10, rfl, sm4, all4⟩
        refine ⟨_, _, _, _, _, _, _, _, rfl, sm4, fun i' hi' a ha j hj => ?_⟩
        by_cases hlt : i' < st
        · exact all3 i' hlt a ha j hj
        · have : i' = st := by omega
          rw [this]
          exact all4 a (by omega) j hj
    · rintro σ H3 ⟨w3, w4, w5, w6, w7, w8, w9, w10, rfl, sm3, all3⟩
      have se : SeAll T R Bg := fun i' a e ge j s p x y g1 g2 g3 g4 => by
        obtain ⟨row, hr', he'⟩ := getE_row ge
        have il := (List.getElem?_eq_some_iff.mp hr').1
        have al := (List.getElem?_eq_some_iff.mp he').1
        have rin := List.mem_of_getElem? hr'
        rw [shp.rl row rin] at al
        have jl := (List.getElem?_eq_some_iff.mp g1).1
        rw [shp.sl row rin e (List.mem_of_getElem? he')] at jl
        exact all3 i' (by omega) a al j jl e ge s p x y g1 g2 g3 g4
      have s03 := s02.trans sm3
      have dv3 := dv.same s03
      have fin : ∀ {H' : Hp} {b : Bool}, Same H3 H' → (b = true ↔ EqStands T ins.length) → Q (.bl b) H' := fun sm h => Qk _ _ (s03.trans sm) (h.trans ⟨fun z => ⟨z, ⟨lB, lR, suR.w, suB.w⟩, suR.u, suB.u, se⟩, fun z => z.es⟩)
      intro md nmd
      have smd := same_upd (o := .dK []) nmd
      have dv4 := dv3.same smd
      refine ⟨_, rfl, m, _, rfl, dv4.gi, Nat.zero_le _, fun oB noB => ?_⟩
      have soB := same_upd (o := .lst []) noB
      have dv5 := dv4.same soB
      have hmd5 := soB _ _ (show upd H3 md (.dK []) md = some (.dK []) from upd_same)
      have hoB : (upd (upd H3 md (.dK [])) oB (.lst [])) oB = some (.lst []) := upd_same
      have s35 := smd.trans soB
      generalize (upd (upd H3 md (.dK [])) oB (.lst [])) = H5 at *
      obtain ⟨v5, hv5, rows5⟩ := id dv5.ht
      have lv5 := rows5.length
      refine ⟨_, rfl, m, _, rfl, dv5.gr, q, rfl, ⟨_, SqL.of hv5⟩, fun D nD => ?_⟩
      refine lc_list (K := K) (a := q) (xs := v5) (fun j H' => ∃ ws : List V, Same H5 H' ∧ H' D = some (.lst ws) ∧ Paired (RowAt (st [D] H')) ws ((bareT T).take j)) ⟨[], same_upd nD, upd_same, by rw [List.take_zero]; exact .nil⟩ (fun j H' _ ⟨_, sm, _⟩ => SqL.of (sm _ _ hv5)) ?_ ?_
      · rintro j x H6 hx ⟨ws, sm6, hD6, pp6⟩
        obtain ⟨row, hrow, b, us, rfl, hb, pe⟩ := paired_get rows5 j x hx
        have lus := pe.length
        have jl := (List.getElem?_eq_some_iff.mp hrow).1
        have rl := shp.rl row (List.mem_of_getElem? hrow)
        refine ⟨rfl, ?_⟩
        refine ⟨_, rfl, b, rfl, ⟨_, SqL.of (sm6 _ _ hb)⟩, fun D2 nD2 => ?_⟩
        refine lc_list (K := K) (a := b) (xs := us) (fun l H' => ∃ zs : List V, Same H6 H' ∧ H' D2 = some (.lst zs) ∧ Paired (EntAt (st [D2, D] H')) zs ((bareR row).take l)) ⟨[], same_upd nD2, upd_same, by rw [List.take_zero]; exact .nil⟩ (fun l H' _ ⟨_, sm, _⟩ => SqL.of (sm _ _ (sm6 _ _ hb))) ?_ ?_
        · rintro l u H7 hu ⟨zs, sm7, hD7, pp7⟩
          obtain ⟨e, he, cc, tc, rfl, hc, htc⟩ := paired_get pe l u hu
          have lzs := pp7.length
          rw [List.length_take] at lzs
          have ll := (List.getElem?_eq_some_iff.mp he).1
          refine ⟨cc, _, rfl, SqT.of (sm7 _ _ (sm6 _ _ hc)), rfl, _, _, rfl, _, _, rfl, rfl, ?_⟩
          refine ⟨rfl, ?_⟩
          refine ⟨_, rfl, Nat.zero_le _, fun em nem => ?_⟩
          have sem := same_upd (o := .tup []) nem
          refine ⟨(by show 2 ≤ sizeLine; decide), fun g ng => ?_⟩
          have sg := same_upd (o := .tup [.int e.1, .ref em]) ng
          have s79 := sem.trans sg
          have nemD : em ≠ D2 := ne_of_fresh hD7 nem
          have ngD : g ≠ D2 := ne_of_fresh (sem _ _ hD7) ng
          have hD67 := sm7 _ _ hD6
          have nemD' : em ≠ D := ne_of_fresh hD67 nem
          have ngD' : g ≠ D := ne_of_fresh (sem _ _ hD67) ng
          have hem : (upd (upd H7 em (.tup [])) g (.tup [.int e.1, .ref em])) em = some (.tup []) := sg _ _ upd_same
          refine ⟨_, s79 _ _ hD7, small1000 (by omega), zs ++ [.ref g], (sm7.trans s79).put nD2, upd_same, ?_⟩
          have gj : (bareR row)[l]? = some (e.1, []) := by
            unfold bareR
            rw [List.getElem?_map, he]
            rfl
          rw [st_upd (by simp), List.take_add_one, gj]
          exact paired_snoc (paired_mono (fun _ _ => EntAt.same (st_mono s79)) pp7) ⟨g, em, rfl, by rw [st_get (by simp [ngD, ngD'])]; exact upd_same, by rw [st_get (by simp [nemD, nemD'])]; exact hem⟩
        · rintro H7 ⟨zs, sm7, hD7, pp7⟩
          rw [lus, List.take_of_length_le (by unfold bareR; rw [List.length_map]; exact Nat.le_refl _)] at pp7
          have lws := pp6.length
          rw [List.length_take] at lws
          have hD67 := sm7 _ _ hD6
          have nDD : D2 ≠ D := ne_of_fresh hD6 nD2
          refine ⟨_, hD67, small1000 (by omega), ws ++ [.ref D2], (sm6.trans sm7).put nD, upd_same, ?_⟩
          have gj : (bareT T)[j]? = some (bareR row) := by
            unfold bareT
            rw [List.getElem?_map, hrow]
            rfl
          rw [st_upd (by simp), List.take_add_one, gj]
          exact paired_snoc (paired_mono (fun _ _ => RowAt.same (st_mono sm7)) pp6) ⟨D2, zs, rfl, by rw [st_get (by simp [nDD])]; exact hD7, paired_mono (fun _ _ => EntAt.same st_sub) pp7⟩
      · rintro H6 ⟨ws, sm6, hD6, pp6⟩
        rw [lv5, List.take_of_length_le (by unfold bareT; rw [List.length_map]; exact Nat.le_refl _)] at pp6
        have tabB : TabAt H6 D (bareT T) := ⟨ws, hD6, paired_mono (fun _ _ => RowAt.same st_same) pp6⟩
        refine ⟨sm6 _ _ hmd5, [(Sum.inr "ins", .ref i), (Sum.inr "outs", .ref oB), (Sum.inr "rows", .ref D)], rfl, (by show 3 ≤ 15; decide), ?_⟩
        have s36 := (s35.trans sm6).put (o := devD i oB D) nmd
        have neq : ∀ {b : Addr} {o' : HO}, H6 b = some o' → (∀ kvs, o' ≠ .dK kvs) → (upd H6 md (devD i oB D)) b = some o' := fun {b o'} h hn => by
          rw [upd_ne]
          · exact h
          · intro z
            rw [z, sm6 _ _ hmd5] at h
            exact hn _ (Option.some.inj h).symm
        have sB : Same (st [md] H6) (upd H6 md (devD i oB D)) := fun b o' h => by
          have h1 := st_same _ _ h
          by_cases z : b = md
          · subst z
            rw [st_in (by simp)] at h
            cases h
          · rw [upd_ne z]
            exact h1
        have dvB : Dev (upd H6 md (devD i oB D)) md i oB D ins [] (bareT T) := by
          refine ⟨upd_same, neq ((dv5.same sm6).hi) (fun _ h => by cases h), neq (sm6 _ _ hoB) (fun _ h => by cases h), ?_⟩
          obtain ⟨vs, h1, h2⟩ := tabB
          refine ⟨vs, neq h1 (fun _ h => by cases h), paired_mono (fun v r ⟨b, us, e, hb, pe⟩ => ⟨b, us, e, neq hb (fun _ h => by cases h), paired_mono (fun u e' ⟨c, t, e2, hc, ht⟩ => ⟨c, t, e2, neq hc (fun _ h => by cases h), neq ht (fun _ h => by cases h)⟩) pe⟩) h2⟩
        refine ⟨_, rfl, md, i, oB, D, ins, [], bareT T, rfl, dvB, i3, (by show 0 ≤ 3; decide), bare_shp shp, fun nh H' sm => ?_, fun a b c x y fh hx hy H' r sm hr' => ?_⟩
        · exact ⟨rfl, fin (s36.trans sm) (by simp [bare_iff.mp nh])⟩
        · refine ⟨rfl, fin (s36.trans sm) ⟨fun h => by simp at h, fun h => absurd ?_ fh.no⟩⟩
          exact bare_iff.mpr h a (by have := fh.il; exact this) (b, c) (lpL_all fh.ab fh.bk)
end
end Hl

set_option Elab.async false
set_option linter.all false
set_option maxRecDepth 100000
set_option maxHeartbeats 4000000
namespace Hl
open PySem PySem.Spec PyProof.Rows L2
abbrev sLaw : Stmt := topS 42
def asgE : Stmt → Expr
  | .Assign _ e _ => e
  | _ => .Constant .none 0 ⟨0, 0, 0, 0⟩
abbrev scLaw1 : Scope := lcScope (asgE (forB ((defBody sLaw).getD 1 (.Pass ⟨0, 0, 0, 0⟩)) 3))
def spLaw (K : PySem.W.Frag) : Sp := fun vs H Q _ => ∃ (a : Addr) (ns : List Int), vs = [.ref a] ∧ SqL K H a (ns.map V.int) ∧ ns.length ≤ 63 ∧ ∀ H', Q (.bl true) H'
abbrev nmLaw : List Str := ["_law_script", "_law_deal_here", "_law_turn", "_law_m", "_law_steady", "_law_bags", "_law_up", "_law_stand", "_law_place", "_law_there", "_law_sends", "_law_fresh", "_law_bend", "_law_handed", "_law_kept", "_law_found", "_law_row", "_law_one"]
theorem scZ : FnScope nmLaw ["_law_script"] (defScope sLaw) := ⟨rfl, rfl, rfl, by decide +kernel, rfl, by decide +kernel, by decide +kernel⟩
def kOh {α : Type} : List α → List α → List α
  | [a], [c, b] => [a, b, c]
  | _, _ => []
theorem kOh_rel {vs zs : List V} {us ws : List Value} (h1 : Vals vs us) (h2 : Vals zs ws) : Vals (kOh vs zs) (kOh us ws) := by
  match vs, us, h1, zs, ws, h2 with
  | [_], [_], .cons a .nil, [_, _], [_, _], .cons c (.cons b .nil) => exact .cons a (.cons b (.cons c .nil))
  | [], [], .nil, _, _, _ => exact .nil
  | _ :: _ :: _, _ :: _ :: _, .cons _ (.cons _ _), _, _, _ => exact .nil
  | [_], [_], .cons _ .nil, [], [], .nil => exact .nil
  | [_], [_], .cons _ .nil, [_], [_], .cons _ .nil => exact .nil
  | [_], [_], .cons _ .nil, _ :: _ :: _ :: _, _ :: _ :: _ :: _, .cons _ (.cons _ (.cons _ _)) => exact .nil
theorem LsW.putq {c d n : Nat} {H : Hp} {q qs b0 c0 t0 : Addr} {o : HO} {ws us0 : List V} {x0 : Int} (hq : H q = some (.lst ws)) (h0 : ws[0]? = some (.ref b0)) (hb0 : H b0 = some (.lst us0)) (h1 : us0[0]? = some (.ref c0)) (hc0 : H c0 = some (.tup [.int x0, .ref t0])) (h : LsW c d H qs n) : LsW c d (upd H q o) qs n := by
  obtain ⟨vs, hv, l, a⟩ := h
  have nq : qs ≠ q := fun z => by
    rw [z, hq] at hv
    have e := HO.lst.inj (Option.some.inj hv)
    subst e
    obtain ⟨b, us, e1, hb, _, au⟩ := a _ (List.mem_of_getElem? h0)
    cases e1
    rw [hb0] at hb
    have e2 := HO.lst.inj (Option.some.inj hb)
    subst e2
    obtain ⟨x, y, ⟨a', e3, ha⟩, _⟩ := au _ (List.mem_of_getElem? h1)
    cases e3
    rw [hc0] at ha
    simp at ha
  refine ⟨vs, by rw [upd_ne nq]; exact hv, l, fun v hvm => ?_⟩
  obtain ⟨b, us, e1, hb, l3, au⟩ := a v hvm
  have nb : b ≠ q := fun z => by
    rw [z, hq] at hb
    have e := HO.lst.inj (Option.some.inj hb)
    subst e
    obtain ⟨x, y, ⟨a', e3, ha⟩, _⟩ := au _ (List.mem_of_getElem? h0)
    cases e3
    rw [hb0] at ha
    cases ha
  exact ⟨b, us, e1, by rw [upd_ne nb]; exact hb, l3, fun u hu => (au u hu).put hq⟩
theorem EntAt.putq {H : Hp} {q : Addr} {o : HO} {ws : List V} {v : V} {e : Ent} (hq : H q = some (.lst ws)) (h : EntAt H v e) : EntAt (upd H q o) v e := by
  obtain ⟨c, t, e1, hc, ht⟩ := h
  exact ⟨c, t, e1, by rw [upd_ne (fun z => by rw [z, hq] at hc; cases hc)]; exact hc, by rw [upd_ne (fun z => by rw [z, hq] at ht; cases ht)]; exact ht⟩
theorem TabAt.putq {H : Hp} {q g : Addr} {ws us' : List V} {T : Tab} {sd : Nat} {row' : List Ent} (ht : TabAt H q T) (hq : H q = some (.lst ws)) (ne : ∀ row ∈ T, row ≠ []) (n1 : T ≠ []) (hg : H g = some (.lst us')) (ngq : g ≠ q) (pg : Paired (EntAt H) us' row') : TabAt (upd H q (.lst (ws.set sd (.ref g)))) q (T.set sd row') := by
  obtain ⟨ws', hq', p⟩ := ht
  have e := HO.lst.inj (Option.some.inj (hq'.symm.trans hq))
  subst e
  have first : ∃ (b0 : Addr) (us0 : List V), ws'[0]? = some (.ref b0) ∧ H b0 = some (.lst us0) := by
    cases hT : T with
    | nil => exact absurd hT n1
    | cons r T' =>
      obtain ⟨v, hv, b, us, e1, hb, _⟩ := paired_get2 p 0 r (by rw [hT]; rfl)
      subst e1
      exact ⟨b, us, hv, hb⟩
  obtain ⟨b0, us0, h0, hb0⟩ := first
  refine ⟨_, upd_same, paired_of (by rw [List.length_set, List.length_set]; exact p.length) fun j x y hx hy => ?_⟩
  rw [List.getElem?_set] at hx hy
  by_cases e : sd = j
  · rw [if_pos e] at hx hy
    have lp := p.length
    by_cases l : sd < ws'.length
    · rw [if_pos l] at hx
      rw [if_pos (by omega)] at hy
      cases Option.some.inj hx
      cases Option.some.inj hy
      exact ⟨g, us', rfl, by rw [upd_ne ngq]; exact hg, paired_mono (fun _ _ h => EntAt.putq hq h) pg⟩
    · rw [if_neg l] at hx
      cases hx
  · rw [if_neg e] at hx hy
    obtain ⟨y', hy', b, us, e1, hb, pe⟩ := paired_get p j x hx
    rw [hy] at hy'
    cases Option.some.inj hy'
    have nb : b ≠ q := fun z => by
      rw [z, hq] at hb
      have e2 := HO.lst.inj (Option.some.inj hb)
      subst e2
      have yne := ne y (List.mem_of_getElem? hy)
      cases hyy : y with
      | nil => exact yne hyy
      | cons e0 y' =>
        obtain ⟨u, hu, c, t, e3, hc, _⟩ := paired_get2 pe 0 e0 (by rw [hyy]; rfl)
        rw [h0] at hu
        cases Option.some.inj hu
        cases e3
        rw [hb0] at hc
        cases hc
    exact ⟨b, us, e1, by rw [upd_ne nb]; exact hb, paired_mono (fun _ _ h => EntAt.putq hq h) pe⟩
theorem paired_take {α β : Type} {R : α → β → Prop} : ∀ {xs : List α} {ys : List β} (_ : Paired R xs ys) (n : Nat), Paired R (xs.take n) (ys.take n)
  | _, _, .nil, n => by rw [List.take_nil, List.take_nil]; exact .nil
  | _, _, .cons a r, 0 => .nil
  | _, _, .cons a r, n + 1 => .cons a (paired_take r n)
theorem paired_drop {α β : Type} {R : α → β → Prop} : ∀ {xs : List α} {ys : List β} (_ : Paired R xs ys) (n : Nat), Paired R (xs.drop n) (ys.drop n)
  | _, _, .nil, n => by rw [List.drop_nil, List.drop_nil]; exact .nil
  | _, _, .cons a r, 0 => .cons a r
  | _, _, .cons a r, n + 1 => paired_drop r n
theorem paired_app {α β : Type} {R : α → β → Prop} : ∀ {xs : List α} {ys : List β} {xs' : List α} {ys' : List β} (_ : Paired R xs ys) (_ : Paired R xs' ys'), Paired R (xs ++ xs') (ys ++ ys')
  | _, _, _, _, .nil, q => q
  | _, _, _, _, .cons a r, q => .cons a (paired_app r q)
/-- a row with one entry anew -/
def rowSet (row : List Ent) (pl : Nat) (e : Ent) : List Ent := row.take pl ++ [e] ++ row.drop (pl + 1)
theorem rowSet_len {row : List Ent} {pl : Nat} {e : Ent} (h : pl < row.length) : (rowSet row pl e).length = row.length := by
  unfold rowSet
  rw [List.length_append, List.length_append, List.length_take, List.length_drop, List.length_singleton]
  omega
theorem rowSet_mem {row : List Ent} {pl : Nat} {e e' : Ent} (h : e' ∈ rowSet row pl e) : e' ∈ row ∨ e' = e := by
  unfold rowSet at h
  rcases List.mem_append.mp h with h | h
  · rcases List.mem_append.mp h with h | h
    · exact .inl (List.mem_of_mem_take h)
    · exact .inr (by simpa using h)
  · exact .inl (List.mem_of_mem_drop h)
theorem rws_dp {K : PySem.W.Frag} {H : Hp} : ∀ {vs : List V} {L : List Prs}, Paired (RwAt false H) vs L → DpAll K H vs (L.map (rwD false))
  | _, _, .nil => .nil
  | _, _, .cons ⟨b, us, e, hb, p⟩ r => by
    subst e
    exact .cons (.lst (SqL.of hb) (prs_dp p)) (rws_dp r)
theorem ls_dp {K : PySem.W.Frag} {H : Hp} {q : Addr} {L : List Prs} (h : LsF false H q L) : Dp K H (.ref q) (lsD false L) := let ⟨_, hq, p⟩ := h; .lst (SqL.of hq) (rws_dp p)
theorem ls_shaped (L : List Prs) : SeqAt.shaped (lsD false L) = true := by
  have lay : ∀ L : List Prs, PyData.canLayAll0 (L.map (rwD false)) = true := fun L => by
    induction L with
    | nil => rfl
    | cons r L ih =>
      show ((rwD false r).canLay0 && PyData.canLayAll0 (L.map (rwD false))) = true
      rw [ih, show (rwD false r).canLay0 = true from prDs_lay r]
      rfl
  have dep : PyData.depthAll (L.map (rwD false)) ≤ 2 := depthAll_map fun r _ => by
    show PyData.depthAll (r.map prD) + 1 ≤ 2
    have := prDs_depth r
    omega
  show ((lsD false L).canLay0 && decide ((lsD false L).depth ≤ 64)) = true
  rw [Bool.and_eq_true]
  exact ⟨lay L, decide_eq_true (by show PyData.depthAll (L.map (rwD false)) + 1 ≤ 64; omega)⟩
theorem ls_eqv_nil (L : List Prs) : PyData.eqv (lsD false L) (.list []) = decide (L = []) := by
  cases L with
  | nil => rfl
  | cons r L => rfl
/-- what is handed in, as data -/
def enD (e : Ent) : PyData := .tuple [.int e.1, .tuple (e.2.map PyData.int)]
def roD (row : List Ent) : PyData := .list (row.map enD)
def taD (T : Tab) : PyData := .list (T.map roD)
def hdD (T : Tab) (R Bg : List Prs) : PyData := .list [taD T, lsD false R, lsD true Bg]
theorem ints_tol {P : Program} {w : World} {H : Hp} : ∀ is : List Int, Paired (Tol P w H) (is.map V.int) (is.map PyData.int)
  | [] => .nil
  | i :: is => .cons tol_int (ints_tol is)
theorem tab_tol {P : Program} {w : World} {H : Hp} {q : Addr} {T : Tab} (h : TabAt H q T) : Tol P w H (.ref q) (taD T) := by
  obtain ⟨vs, hq, p⟩ := h
  exact tol_lst hq (paired_map (fun v row ⟨b, us, e, hb, pe⟩ => by
    subst e
    exact tol_lst hb (paired_map (fun u e ⟨c, t, e1, hc, ht⟩ => by
      subst e1
      exact tol_tup hc (.cons tol_int (.cons (tol_tup ht (ints_tol e.2)) .nil))) pe)) p)
/-- data that can be shown, not too long -/
structure Sh (d : PyData) (dep len : Nat) : Prop where
  s : d.showable = true
  h : d.hasDict = false
  dp : d.depth ≤ dep
  l : d.shown.length ≤ len
theorem sh_int {a : Int} (h : a.natAbs < 2 ^ 100) : Sh (.int a) 0 101 := ⟨(int_ok h).1, rfl, Nat.le_refl _, (int_ok h).2⟩
theorem sh_list {α : Type} {g : α → PyData} {l : List α} {dep len m : Nat} (hm : l.length ≤ m) (h : ∀ x ∈ l, Sh (g x) dep len) : Sh (.list (l.map g)) (dep + 1) ((len + 2) * m + 3) := by
  refine ⟨showAll_map fun x hx => (h x hx).s, noDictAll_map fun x hx => (h x hx).h, Nat.succ_le_succ (depthAll_map fun x hx => (h x hx).dp), ?_⟩
  obtain ⟨h1, h2⟩ := shownAll_len (g := g) (n := len) (l := l) fun x hx => (h x hx).l
  have h3 := listText_len_le (PyData.shownAll (l.map g))
  have h4 : len * l.length ≤ len * m := Nat.mul_le_mul_left _ hm
  show (listText (PyData.shownAll (l.map g))).length ≤ _
  rw [Nat.add_mul]
  omega
theorem sh_tup {α : Type} {g : α → PyData} {l : List α} {dep len m : Nat} (hm : l.length ≤ m) (h : ∀ x ∈ l, Sh (g x) dep len) : Sh (.tuple (l.map g)) (dep + 1) ((len + 2) * m + 3) := by
  refine ⟨showAll_map fun x hx => (h x hx).s, noDictAll_map fun x hx => (h x hx).h, Nat.succ_le_succ (depthAll_map fun x hx => (h x hx).dp), ?_⟩
  obtain ⟨h1, h2⟩ := shownAll_len (g := g) (n := len) (l := l) fun x hx => (h x hx).l
  have h3 := tupleText_len_le (PyData.shownAll (l.map g))
  have h4 : len * l.length ≤ len * m := Nat.mul_le_mul_left _ hm
  show (tupleText (PyData.shownAll (l.map g))).length ≤ _
  rw [Nat.add_mul]
  omega
theorem Sh.mono {d : PyData} {dep len dep' len' : Nat} (h : Sh d dep len) (h1 : dep ≤ dep') (h2 : len ≤ len') : Sh d dep' len' := ⟨h.s, h.h, Nat.le_trans h.dp h1, Nat.le_trans h.l h2⟩
theorem lt100 {x : Int} {a : Nat} (h : x.natAbs < 2 ^ a) (ha : a ≤ 100) : x.natAbs < 2 ^ 100 := Nat.lt_of_lt_of_le h (Nat.pow_le_pow_right (by decide) ha)
theorem sh_pr {p : Int × Int} (h1 : p.1.natAbs < 2 ^ 56) (h2 : p.2.natAbs < 2 ^ 22) : Sh (prD p) 1 209 := sh_tup (g := PyData.int) (l := [p.1, p.2]) (m := 2) (dep := 0) (len := 101) (Nat.le_refl 2) fun x hx => by
  simp only [List.mem_cons, List.not_mem_nil, or_false] at hx
  rcases hx with rfl | rfl
  · exact sh_int (lt100 h1 (by decide))
  · exact sh_int (lt100 h2 (by decide))
theorem sh_ls {t : Bool} {L : List Prs} (l62 : L.length ≤ 62) (l3 : L3 L) (bd : Bd 56 22 L) : Sh (lsD t L) 3 40000 := by
  have row : ∀ r ∈ L, Sh (rwD t r) 2 640 := fun r hr => by
    have e : ∀ p ∈ r, Sh (prD p) 1 209 := fun p hp => sh_pr (bd r hr p hp).1 (bd r hr p hp).2
    cases t with
    | true => exact (sh_tup (m := 3) (l3 r hr) e).mono (by decide) (by decide)
    | false => exact (sh_list (m := 3) (l3 r hr) e).mono (by decide) (by decide)
  exact (sh_list (m := 62) l62 row).mono (by decide) (by decide)
def SvW (T : Tab) : Prop := ∀ row ∈ T, ∀ e ∈ row, ∀ x ∈ e.2, 0 ≤ x ∧ x ≤ 1000000
theorem Lawful.shw {T : Tab} {k n : Nat} (l : Lawful T k n) : ShW T k n := ⟨l.n1, l.n60, l.rl, l.nx, l.sl⟩
theorem Lawful.svw {T : Tab} {k n : Nat} (l : Lawful T k n) : SvW T := fun r hr e he x hx => by have := l.sv r hr e he x hx; omega
theorem ShW.set {T : Tab} {k n sd pl : Nat} {row : List Ent} {e : Ent} (s : ShW T k n) (hrow : T[sd]? = some row) (hp : pl < k) (he : ∃ t : Nat, e.1 = t ∧ t < T.length) (hl : e.2.length = n) : ShW (T.set sd (rowSet row pl e)) k n := by
  have rin := List.mem_of_getElem? hrow
  have rl := s.rl row rin
  have mem : ∀ r ∈ T.set sd (rowSet row pl e), r ∈ T ∨ r = rowSet row pl e := fun r hr => List.mem_or_eq_of_mem_set hr
  refine ⟨by rw [List.length_set]; exact s.n1, by rw [List.length_set]; exact s.n60, fun r hr => ?_, fun r hr e' he' => ?_, fun r hr e' he' => ?_⟩
  · rcases mem r hr with h | h
    · exact s.rl r h
    · rw [h, rowSet_len (by omega), rl]
  · rw [List.length_set]
    rcases mem r hr with h | h
    · exact s.nx r h e' he'
    · rw [h] at he'
      rcases rowSet_mem he' with z | z
      · exact s.nx row rin e' z
      · rw [z]
        exact he
  · rcases mem r hr with h | h
    · exact s.sl r h e' he'
    · rw [h] at he'
      rcases rowSet_mem he' with z | z
      · exact s.sl row rin e' z
      · rw [z]
        exact hl
theorem SvW.set {T : Tab} {sd pl : Nat} {row : List Ent} {e : Ent} (s : SvW T) (hrow : T[sd]? = some row) (he : ∀ x ∈ e.2, 0 ≤ x ∧ x ≤ 1000000) : SvW (T.set sd (rowSet row pl e)) := fun r hr e' he' x hx => by
  rcases List.mem_or_eq_of_mem_set hr with h | h
  · exact s r h e' he' x hx
  · rw [h] at he'
    rcases rowSet_mem he' with z | z
    · exact s row (List.mem_of_getElem? hrow) e' z x hx
    · rw [z] at hx
      exact he x hx
theorem ShW.ne {T : Tab} {k n : Nat} (s : ShW T k n) (h : 1 ≤ k) : ∀ row ∈ T, row ≠ [] := fun row hr e => by
  have := s.rl row hr
  rw [e] at this
  simp at this
  omega
theorem hd_ok {T : Tab} {k n : Nat} {R Bg : List Prs} (n60 : T.length ≤ 60) (rl : ∀ row ∈ T, row.length = k) (sl : ∀ row ∈ T, ∀ e ∈ row, e.2.length = n) (k3 : k ≤ 3) (n3 : n ≤ 3) (sv : SvW T) (nx : ∀ row ∈ T, ∀ e ∈ row, e.1.natAbs < 60 + 1) (lR : R.length ≤ 62) (lB : Bg.length ≤ 62) (r3 : L3 R) (b3 : L3 Bg) (bdR : Bd 56 22 R) (bdB : Bd 56 22 Bg) :
    (hdD T R Bg).showable = true ∧ (hdD T R Bg).hasDict = false ∧ (hdD T R Bg).depth ≤ 60 ∧ (hdD T R Bg).shown.length ≤ sizeLine := by
  have en : ∀ row ∈ T, ∀ e ∈ row, Sh (enD e) 2 900 := fun row hr e he => by
    have s1 : Sh (.tuple (e.2.map PyData.int)) 1 320 := (sh_tup (g := PyData.int) (m := 3) (by rw [sl row hr e he]; exact n3) fun x hx => sh_int (by have := sv row hr e he x hx; rw [e100]; omega)).mono (by decide) (by decide)
    have s0 : Sh (.int e.1) 1 320 := (sh_int (by have := nx row hr e he; rw [e100]; omega)).mono (by decide) (by decide)
    exact (sh_tup (g := id) (l := [.int e.1, .tuple (e.2.map PyData.int)]) (m := 2) (dep := 1) (len := 320) (Nat.le_refl 2) fun x hx => by
      simp only [List.mem_cons, List.not_mem_nil, or_false] at hx
      rcases hx with rfl | rfl
      · exact s0
      · exact s1).mono (by decide) (by decide)
  have ro : ∀ row ∈ T, Sh (roD row) 3 2710 := fun row hr => (sh_list (m := 3) (by rw [rl row hr]; exact k3) (en row hr)).mono (by decide) (by decide)
  have ta : Sh (taD T) 4 170000 := (sh_list (m := 60) n60 ro).mono (by decide) (by decide)
  have all : Sh (hdD T R Bg) 5 520000 := (sh_list (g := id) (l := [taD T, lsD false R, lsD true Bg]) (m := 3) (Nat.le_refl 3) (dep := 4) (len := 170000) fun x hx => by
    simp only [List.mem_cons, List.not_mem_nil, or_false] at hx
    rcases hx with rfl | rfl | rfl
    · exact ta
    · exact (sh_ls lR r3 bdR).mono (by decide) (by decide)
    · exact (sh_ls lB b3 bdB).mono (by decide) (by decide)).mono (by decide) (by decide)
  refine ⟨all.s, all.h, Nat.le_trans all.dp (by decide), Nat.le_trans all.l ?_⟩
  rw [sizeLine_eq]
  decide
section
variable {P : Program} {w : World} {K : PySem.W.Frag} {mg : Str → Option Value} {base : Heap}
theorem ok_law {f f1 f2 f3 f4 f5 f6 f7 f8 f9 fA fB a : Addr} {fd d1 d2 d3 d4 d5 d6 d7 d8 d9 dA dB : FuncData} {k n : Nat} (F : Fun K "law" "law" sLaw f fd) (room : Room (k + 1) callerA) (bind : ∀ (s : Shared) (u : Value), BindsTo s fd ⟨[u], []⟩ [("_law_script", u)]) (B : Bi mg) (J : Bj mg) (mRepr : mg "repr" = none)
    (D : Has P w K mg base k "_law_deal" ["_law_script"] (spDeal K) f1 d1)
    (A' : Has P w K mg base k "_law_any_device" ["_law_deal_here", "_law_most"] spAny f2 d2)
    (L : Has P w K mg base k "_law_like" ["_law_found", "_law_due"] (spLike K (n + 3)) f3 d3)
    (Lr : Has P w K mg base k "_law_rates" ["_law_m"] spLrt f4 d4)
    (Op : Has P w K mg base k "_law_own_purses" ["_law_m"] spOp f5 d5)
    (Pk : Has P w K mg base k "_law_pick" ["_law_deal_here", "_law_many"] spPick f6 d6)
    (Su : Has P w K mg base k "_law_sum" ["_law_one", "_law_other"] (spBin K nPlus) f7 d7)
    (Of : Has P w K mg base k "_law_of" ["_law_deal_here", "_law_some"] spOf f8 d8)
    (Br : Has P w K mg base k "_law_bent_lists" ["_law_deal_here", "_law_lists"] spBr f9 d9)
    (Ho : Has P w K mg base k "_law_holds" ["_law_m", "_law_steady", "_law_bags"] spHo fA dA)
    (Oh : Has P w K mg base k "order_holds" ["rows", "rates", "purses"] spOh fB dB) (nO : KBn K dB ["rows", "rates", "purses"] 1 ["purses", "rates"] kOh kOh) : Top P w K mg base f a (spLaw K) := by
  refine Fun.top F scZ room bind (fun cdv s H Q hr hg h => ?_)
  obtain ⟨_, ns, e, hS, hlen, q⟩ := h
  cases e
  refine ⟨_, (pss_cons (ps_set (i := 1) scZ.nd rfl (.inl rfl) (pe_call D.G hr (by rfl) D.g D.kp D.b .nil pass0 (pa_cons (pv 0) pa_nil)))
        (pss_cons (ps_for PassesOwn.never rfl (pi_range1 (by rfl) B.rng (pa_cons pe_int pa_nil)) (pg_name (i := 2) scZ.nd rfl (.inl rfl))
          (pss_cons (ps_set (i := 3) scZ.nd rfl (.inl rfl) (pe_call A'.G hr (by rfl) A'.g A'.kp A'.b .nil pass0 (pa_cons (pv 1) (pa_cons pe_int pa_nil))))
        (pss_cons (ps_par (i := 4) (j := 5) rfl scZ.nd rfl rfl (by decide) rfl rfl (pa_cons (pe_call Lr.G hr (by rfl) Lr.g Lr.kp Lr.b .nil pass0 (pa_cons (pv 3) pa_nil)) (pa_cons (pe_call Op.G hr (by rfl) Op.g Op.kp Op.b .nil pass0 (pa_cons (pv 3) pa_nil)) pa_nil)) (by rfl))
        (pss_cons (ps_set (i := 6) scZ.nd rfl (.inr rfl) (pe_call Pk.G hr (by rfl) Pk.g Pk.kp Pk.b .nil pass0 (pa_cons (pv 1) (pa_cons pe_int pa_nil))))
        (pss_cons (ps_setLc (i := 5) (own := [("_law_row", 16)]) (g := gName 16) (tt := tYes) (te := tLc (iList K (tVar 16)) (gName 17) tYes (tCall (spBin K nPlus) [] E0 (tCons (tVar 17) (tCons (tTup (tCons (tVar 6) (tCons (tC (.int 1)) tNil))) tNil))) [17]) rfl scZ.nd rfl rfl (sw_true rfl rfl rfl (by decide +kernel)) (pi_list (pv 5)) (blkOk_by (own := [("_law_row", 16)]) (N := nmLaw) (sc := defScope sLaw) (by decide +kernel)) (fun _ _ _ _ _ => (pg_name (i := 16) scZ.nd rfl (Or.inl rfl))) (fun _ _ _ _ _ => pts_nil) (fun _ _ _ _ _ => (pe_lc (own := [("_law_one", 17)]) (g := gName 17) (tt := tYes) rfl scZ.nd (pi_list (pv 16)) (blkOk_by (own := [("_law_one", 17)]) (N := nmLaw) (sc := scLaw1) (by decide +kernel)) (fun _ _ _ _ _ => (pg_name (i := 17) scZ.nd rfl (Or.inl rfl))) (fun _ _ _ _ _ => pts_nil) (fun _ _ _ _ _ => (pe_call Su.G hr (by rfl) Su.g Su.kp Su.b .nil pass0 (pa_cons (pv 17) (pa_cons (pe_tup (pa_cons (pv 6) (pa_cons pe_int pa_nil))) pa_nil)))))))
        (Evl.pss_cut (ps_if (pt_cmpR op_eq (pe_call Pk.G hr (by rfl) Pk.g Pk.kp Pk.b .nil pass0 (pa_cons (pv 1) (pa_cons pe_int pa_nil))) pe_int (nomark _)) (pss_cons (ps_par (i := 7) (j := 8) rfl scZ.nd rfl rfl (by decide) rfl rfl (pa_cons (pe_call Pk.G hr (by rfl) Pk.g Pk.kp Pk.b .nil pass0 (pa_cons (pv 1) (pa_cons (pe_callB call_len_seq (by rfl) B.len PySem.boot_len (pa_cons (pe_dget (hu_of hr) (pv 3) pe_str (fun _ _ => rfl)) pa_nil)) pa_nil))) (pa_cons (pe_call Pk.G hr (by rfl) Pk.g Pk.kp Pk.b .nil pass0 (pa_cons (pv 1) (pa_cons (pe_callB call_len_seq (by rfl) B.len PySem.boot_len (pa_cons (pe_dget (hu_of hr) (pv 3) pe_str (fun _ _ => rfl)) pa_nil)) pa_nil))) pa_nil)) (by rfl))
        (pss_cons (ps_asg (pe_ix (r := rIx K) ix_seq (pe_ix (r := rIx K) ix_seq (pe_dget (hu_of hr) (pv 3) pe_str (fun _ _ => rfl)) (pv 7) (fun _ _ => rfl)) (pv 8) (fun _ _ => rfl)) (pg_tup rfl (pgs_cons (pg_name (i := 9) scZ.nd rfl (.inl rfl)) (pgs_cons (pg_name (i := 10) scZ.nd rfl (.inl rfl)) pgs_nil))))
        (pss_cons (ps_set (i := 11) scZ.nd rfl (.inl rfl) (pe_lst (pa_cons (pe_tup (pa_cons (pe_call Pk.G hr (by rfl) Pk.g Pk.kp Pk.b .nil pass0 (pa_cons (pv 1) (pa_cons (pe_callB call_len_seq (by rfl) B.len PySem.boot_len (pa_cons (pe_dget (hu_of hr) (pv 3) pe_str (fun _ _ => rfl)) pa_nil)) pa_nil))) (pa_cons (pv 10) pa_nil))) (pa_cons (pe_tup (pa_cons (pv 9) (pa_cons (pe_callTy (r := rTup K) call_tuple_of (by rfl) B.tup (by decide +kernel) (pa_cons (pe_lc (own := [("_law_one", 17)]) (g := gName 17) (tt := tYes) rfl scZ.nd (pi_tup (pv 10)) (blkOk_by (own := [("_law_one", 17)]) (N := nmLaw) (sc := defScope sLaw) (by decide +kernel)) (fun _ _ _ _ _ => (pg_name (i := 17) scZ.nd rfl (Or.inl rfl))) (fun _ _ _ _ _ => pts_nil) (fun _ _ _ _ _ => (pe_op op_add (pv 17) pe_int))) pa_nil)) pa_nil))) pa_nil))))
        (pss_cons (ps_set (i := 11) scZ.nd rfl (.inl rfl) (pe_call Of.G hr (by rfl) Of.g Of.kp Of.b .nil pass0 (pa_cons (pv 1) (pa_cons (pv 11) pa_nil))))
        (pss_one (ps_asg (pe_op op_cat (pe_op op_cat (pe_slice sl_list (pe_ix (r := rIxL K) ix_list (pe_dget (hu_of hr) (pv 3) pe_str (fun _ _ => rfl)) (pv 7) (fun _ _ => rfl)) po_none (po_some (pv 8))) (pe_lst (pa_cons (pv 11) pa_nil))) (pe_slice sl_list (pe_ix (r := rIxL K) ix_list (pe_dget (hu_of hr) (pv 3) pe_str (fun _ _ => rfl)) (pv 7) (fun _ _ => rfl)) (po_some (pe_op op_add (pv 8) pe_int)) po_none)) (pg_sub (pe_dget (hu_of hr) (pv 3) pe_str (fun _ _ => rfl)) (pv 7) set_list))))))) pss_nil)
        (pss_cons (ps_for PassesOwn.never rfl (pi_range1 (by rfl) B.rng (pa_cons (pe_call Of.G hr (by rfl) Of.g Of.kp Of.b .nil pass0 (pa_cons (pv 1) (pa_cons (pe_lst (pa_cons pe_int (pa_cons pe_int (pa_cons pe_int (pa_cons pe_int pa_nil))))) pa_nil))) pa_nil)) (pg_name (i := 12) scZ.nd rfl (.inl rfl))
          (pss_one (ps_if (PW.pt (pw_and (pt_cmpR op_eq (pe_call Pk.G hr (by rfl) Pk.g Pk.kp Pk.b .nil pass0 (pa_cons (pv 1) (pa_cons pe_int pa_nil))) pe_int (nomark _)) (pw_and1 (pt_cmpR (op_neD hr.units) (pv 4) (pe_lst pa_nil) (nomark _))))) (pss_one (ps_set (i := 4) scZ.nd rfl (.inl rfl) (pe_call Br.G hr (by rfl) Br.g Br.kp Br.b .nil pass0 (pa_cons (pv 1) (pa_cons (pv 4) pa_nil))))) (pss_one (ps_if (pt_cmpR (op_neD hr.units) (pv 5) (pe_lst pa_nil) (nomark _)) (pss_one (ps_set (i := 5) scZ.nd rfl (.inl rfl) (pe_call Br.G hr (by rfl) Br.g Br.kp Br.b .nil pass0 (pa_cons (pv 1) (pa_cons (pv 5) pa_nil))))) pss_nil)))))
        (pss_cons (ps_set (i := 13) scZ.nd rfl (.inl rfl) (pe_lst (pa_cons (pe_lc (own := [("_law_row", 16)]) (g := gName 16) (tt := tYes) (te := tCB (rLst K) (tCons (tVar 16) tNil)) rfl scZ.nd (pi_list (pe_dget (hu_of hr) (pv 3) pe_str (fun _ _ => rfl))) (blkOk_by (own := [("_law_row", 16)]) (N := nmLaw) (sc := defScope sLaw) (by decide +kernel)) (fun _ _ _ _ _ => (pg_name (i := 16) scZ.nd rfl (Or.inl rfl))) (fun _ _ _ _ _ => pts_nil) (fun _ _ _ _ _ => (pe_callTy (r := rLst K) call_list_of (by rfl) B.lst (by decide +kernel) (pa_cons (pv 16) pa_nil)))) (pa_cons (pe_lc (own := [("_law_row", 16)]) (g := gName 16) (tt := tYes) (te := tCB (rLst K) (tCons (tVar 16) tNil)) rfl scZ.nd (pi_list (pv 4)) (blkOk_by (own := [("_law_row", 16)]) (N := nmLaw) (sc := defScope sLaw) (by decide +kernel)) (fun _ _ _ _ _ => (pg_name (i := 16) scZ.nd rfl (Or.inl rfl))) (fun _ _ _ _ _ => pts_nil) (fun _ _ _ _ _ => (pe_callTy (r := rLst K) call_list_of (by rfl) B.lst (by decide +kernel) (pa_cons (pv 16) pa_nil)))) (pa_cons (pe_lc (own := [("_law_row", 16)]) (g := gName 16) (tt := tYes) (te := tCB (rTup K) (tCons (tVar 16) tNil)) rfl scZ.nd (pi_list (pv 5)) (blkOk_by (own := [("_law_row", 16)]) (N := nmLaw) (sc := defScope sLaw) (by decide +kernel)) (fun _ _ _ _ _ => (pg_name (i := 16) scZ.nd rfl (Or.inl rfl))) (fun _ _ _ _ _ => pts_nil) (fun _ _ _ _ _ => (pe_callTy (r := rTup K) call_tuple_of (by rfl) B.tup (by decide +kernel) (pa_cons (pv 16) pa_nil)))) pa_nil)))))
        (pss_cons (ps_set (i := 14) scZ.nd rfl (.inl rfl) (pe_callB (call_reprD hg hr.units) (by rfl) mRepr (by decide +kernel) (pa_cons (pv 13) pa_nil)))
        (pss_cons (ps_set (i := 15) scZ.nd rfl (.inl rfl) (pe_callN Oh.G hr (by rfl) Oh.g Oh.kp nO pass0 (pa_cons (pe_ix (r := rIxL K) ix_list (pv 13) pe_int (fun _ _ => rfl)) pa_nil) (pk_cons (pe_ix (r := rIxL K) ix_list (pv 13) pe_int (fun _ _ => rfl)) (pk_cons (pe_ix (r := rIxL K) ix_list (pv 13) pe_int (fun _ _ => rfl)) pk_nil))))
        (pss_one (ps_if (PW.pt (pw_or (pt_not (pt_val (pe_call L.G hr (by rfl) L.g L.kp L.b .nil pass0 (pa_cons (pv 15) (pa_cons (pe_call Ho.G hr (by rfl) Ho.g Ho.kp Ho.b .nil pass0 (pa_cons (pv 3) (pa_cons (pv 4) (pa_cons (pv 5) pa_nil)))) pa_nil))))) (pw_or1 (pt_cmpR op_ne (pe_callB (call_reprD hg hr.units) (by rfl) mRepr (by decide +kernel) (pa_cons (pv 13) pa_nil)) (pv 14) (nomark _))))) (pss_one (ps_ret pe_bl)) pss_nil))))))))))))
        (pss_one (ps_ret pe_bl)))), ?_⟩
  refine ⟨_, rfl, a, ns, rfl, hS, hlen, fun H1 p l sm1 np dl1 => ?_⟩
  refine ⟨5, rfl, by decide, by decide, for_range (lo := 0) (n := 5) (fun i σ H' => ∃ v2 v3 v4 v5 v6 v7 v8 v9 v10 v11 v12 v13 v14 v15 : Option V, σ = [some (.ref a), some (.ref p), v2, v3, v4, v5, v6, v7, v8, v9, v10, v11, v12, v13, v14, v15, none, none] ∧ Deal H' p l) ⟨none, none, none, none, none, none, none, none, none, none, none, none, none, none, rfl, dl1⟩ ?_ (fun σ H' _ => q H')⟩
  rintro i σ H2 hi ⟨v2, v3, v4, v5, v6, v7, v8, v9, v10, v11, v12, v13, v14, v15, rfl, dl2⟩
  refine ⟨_, rfl, p, l, 10, rfl, dl2, by decide, by decide, fun H3 m i' o' q' ins outs T k3 dl3 nm dv i1 ni no law lT => ?_⟩
  have i3 := ni.l3
  have o3 := no.l3
  have n60 := law.n60
  have n1 := law.n1
  have li : (ins.map V.str).length = ins.length := List.length_map _
  obtain ⟨N, hN⟩ : ∃ N : Int, N = (N0 T ins.length : Nat) := ⟨_, rfl⟩
  have n0 : 0 < N := by
    have := N0_pos law
    omega
  have nb : N ≤ 216000 := by
    have := N0_le law i3
    omega
  refine ⟨_, rfl, m, i', o', q', ins, outs, T, rfl, dv, law, i3, o3, fun H4 qa sm4 nqa rat => ?_⟩
  have dv4 := dv.same sm4
  refine ⟨_, rfl, m, i', o', q', ins, outs, T, rfl, dv4, law, i3, o3, fun H5 qb L0 sm5 hL0 lL0 gL0 => ?_⟩
  refine ⟨_, _, rfl, ?_⟩
  have dl5 := (dl3.same sm4).same sm5
  have dv5 := dv4.same sm5
  -- the rates, weakly
  have wa5 : LsW 52 18 H5 qa 60 := by
    obtain ⟨vr, hvr, prr⟩ := rat
    refine ⟨vr, sm5 _ _ hvr, by rw [prr.length, List.length_range]; omega, fun v hv => ?_⟩
    obtain ⟨a', ha', b, us, e, hb, pr⟩ := paired_mem prr hv
    have ak := List.mem_range.mp ha'
    rw [← hN] at pr
    obtain ⟨ps, p1, p2, p3⟩ := pts_rw (c := 12960000000000) n0 nb pr fun X hX => by
      obtain ⟨j, hj⟩ := List.getElem?_of_mem hX
      have jl := (List.getElem?_eq_some_iff.mp hj).1
      unfold ratesL at jl hj
      rw [vec_len] at jl
      rw [vec_get jl] at hj
      cases Option.some.inj hj
      have := rt0_bound law i3 ak jl
      omega
    have lps := p1.length
    have lX : ps.length ≤ 3 := by
      rw [p2]
      unfold ratesL
      rw [vec_len]
      exact o3
    refine ⟨b, us, e, sm5 _ _ hb, by omega, fun u hu => ?_⟩
    obtain ⟨pq, hpq, pa⟩ := paired_mem p1 hu
    have g := p3 pq hpq
    have g1 := g.b
    have g2 := g.y0
    have g3 := g.yb
    exact ⟨pq.1, pq.2, pa.same sm5, by omega, by omega⟩
  refine ⟨_, rfl, p, l, 3, rfl, dl5, by decide, lg (b := 11) (by decide) (by decide) (by decide), fun H6 up k6 dl6 r60 r61 => ?_⟩
  have dv6 := dv5.kp k6
  have wa6 := wa5.kp k6
  have hL6 := hL0.kp k6
  -- the purses raised
  obtain ⟨vb, hvb, pb⟩ := id hL6
  have lvb := pb.length
  refine ⟨_, rfl, qb, rfl, ⟨_, SqL.of hvb⟩, fun Db nDb => ?_⟩
  refine lc_list (K := K) (a := qb) (xs := vb) (fun j H' => ∃ ws : List V, Same H6 H' ∧ H' Db = some (.lst ws) ∧ ws.length = j ∧ ∀ v ∈ ws, RwW 52 18 (st [Db] H') v) ⟨[], same_upd nDb, upd_same, rfl, fun v hv => by cases hv⟩ (fun j H' _ ⟨_, sm, _⟩ => SqL.of (sm _ _ hvb)) ?_ ?_
  · rintro j x H7 hx ⟨ws, sm7, hD7, lws, aws⟩
    obtain ⟨ps, hps, b, us, rfl, hb, pr⟩ := paired_get pb j x hx
    have jl := (List.getElem?_eq_some_iff.mp hps).1
    obtain ⟨lps, gps⟩ := gL0 ps (List.mem_of_getElem? hps)
    have lus := pr.length
    refine ⟨rfl, ?_⟩
    refine ⟨_, rfl, b, rfl, ⟨_, SqL.of (sm7 _ _ hb)⟩, fun D2 nD2 => ?_⟩
    refine lc_list (K := K) (a := b) (xs := us) (fun l' H' => ∃ zs : List V, Same H7 H' ∧ H' D2 = some (.lst zs) ∧ zs.length = l' ∧ ∀ u ∈ zs, PrW 52 18 (st [D2, Db] H') u) ⟨[], same_upd nD2, upd_same, rfl, fun v hv => by cases hv⟩ (fun l' H' _ ⟨_, sm, _⟩ => SqL.of (sm _ _ (sm7 _ _ hb))) ?_ ?_
    · rintro l' u H8 hu ⟨zs, sm8, hD8, lzs, azs⟩
      obtain ⟨pq, hpq, cc, rfl, hc⟩ := paired_get pr l' u hu
      have ll := (List.getElem?_eq_some_iff.mp hpq).1
      have g := gps pq (List.mem_of_getElem? hpq)
      have g1 := g.b
      have g2 := g.y0
      have g3 := g.yb
      refine ⟨rfl, ?_⟩
      refine ⟨_, rfl, _, rfl, (by show 2 ≤ sizeLine; decide), fun g' ng => ?_⟩
      have sg := same_upd (o := .tup [.int up, .int 1]) ng
      have e100' := e100
      refine ⟨cc, g', _, _, pq.1, pq.2, up, 1, rfl, SqT.of (sg _ _ (sm8 _ _ (sm7 _ _ hc))), SqT.of upd_same, ⟨rfl, by rw [e100]; omega, g2, by rw [e100]; omega⟩, ⟨rfl, by rw [e100]; omega, by decide, by decide⟩, fun H9 d9 sm9 nd9 hd9 => ?_⟩
      have s89 := sg.trans sm9
      have hD9 := s89 _ _ hD8
      have hDb9 := s89 _ _ (sm8 _ _ hD7)
      have n1' : d9 ≠ D2 := ne_of_fresh (sg _ _ hD8) nd9
      have n2' : d9 ≠ Db := ne_of_fresh (sg _ _ (sm8 _ _ hD7)) nd9
      obtain ⟨x, y, exy, bx, y0, yb⟩ := lowB (o := nPlus pq.1 pq.2 up 1) (u := pq.2 * 1) (by rw [Int.mul_one]; exact g2)
      have ePl : nPlus pq.1 pq.2 up 1 = pq.1 + up * pq.2 := by
        show pq.1 * 1 + up * pq.2 = _
        rw [Int.mul_one]
      have bup : (up * pq.2).natAbs ≤ 2 * 216000 := by
        rw [Int.natAbs_mul]
        exact Nat.mul_le_mul (by omega) (by omega)
      rw [ePl] at bx
      rw [Int.mul_one] at yb
      refine ⟨_, hD9, small1000 (by omega), zs ++ [.ref d9], (sm8.trans s89).put nD2, upd_same, by rw [List.length_append, lzs]; rfl, fun v hv => ?_⟩
      rw [st_upd (by simp)]
      rcases List.mem_append.mp hv with h | h
      · exact (azs v h).same (st_mono s89)
      · have : v = .ref d9 := by simpa using h
        refine ⟨x, y, ⟨d9, this, ?_⟩, by omega, by omega⟩
        rw [st_get (by simp [n1', n2']), hd9, exy]
    · rintro H8 ⟨zs, sm8, hD8, lzs, azs⟩
      have hDb8 := sm8 _ _ hD7
      have nDD : D2 ≠ Db := ne_of_fresh hD7 nD2
      refine ⟨_, hDb8, small1000 (by omega), ws ++ [.ref D2], (sm7.trans sm8).put nDb, upd_same, by rw [List.length_append, lws]; rfl, fun v hv => ?_⟩
      rw [st_upd (by simp)]
      rcases List.mem_append.mp hv with h | h
      · obtain ⟨b', us', e', hb', l', a'⟩ := aws v h
        exact ⟨b', us', e', (st_mono sm8) _ _ hb', l', fun u hu => (a' u hu).same (st_mono sm8)⟩
      · have : v = .ref D2 := by simpa using h
        exact ⟨D2, zs, this, by rw [st_get (by simp [nDD])]; exact hD8, by omega, fun u hu => (azs u hu).same st_sub⟩
  rintro H7 ⟨wb, sm7, hD7, lwb, awb⟩
  have wb7 : LsW 52 18 H7 Db 60 := ⟨wb, hD7, by omega, fun v hv => let ⟨b', us', e', hb', l', a'⟩ := awb v hv; ⟨b', us', e', st_same _ _ hb', l', fun u hu => (a' u hu).same st_same⟩⟩
  have wa7 := wa6.kp (Kp.of sm7)
  have dv7 := dv6.same sm7
  have dl7 := dl6.same sm7
  clear pb hvb lvb hL6 hL0 gL0 rat wa5 wa6 awb
  -- a next stand or a sending turned
  refine ⟨fun σ' H' => ∃ (w7 w8 w9 w10 w11 : Option V) (T' : Tab), σ' = [some (.ref a), some (.ref p), some (.int (0 + i)), some (.ref m), some (.ref qa), some (.ref Db), some (.int up), w7, w8, w9, w10, w11, v12, v13, v14, v15, none, none] ∧ Deal H' p l ∧ Dev H' m i' o' q' ins outs T' ∧ ShW T' ins.length outs.length ∧ SvW T' ∧ LsW 52 18 H' qa 60 ∧ LsW 52 18 H' Db 60, ?_, ?_⟩
  · refine ⟨_, rfl, p, l, 3, rfl, dl7, by decide, lg (b := 11) (by decide) (by decide) (by decide), fun H8 r8 k8 dl8 r80 r81 => ?_⟩
    have dv8 := dv7.kp k8
    have wa8 := wa7.kp k8
    have wb8 := wb7.kp k8
    refine ⟨rfl, _, rfl, ite2 (fun e => ?_) (fun e => ⟨_, _, _, _, _, T, rfl, dl8, dv8, law.shw, law.svw, wa8, wb8⟩)⟩
    obtain ⟨vt, hvt, pvt⟩ := id dv8.ht
    have lvt := pvt.length
    refine ⟨_, rfl, _, rfl, m, _, rfl, dv8.gr, q', vt, rfl, .inl (SqL.of hvt), p, l, (vt.length : Int), rfl, dl8, by omega, lg (b := 10) (by omega) (by decide) (by decide), fun H9 r9 k9 dl9 r90 r91 => ?_⟩
    have dv9 := dv8.kp k9
    obtain ⟨sd, rfl⟩ := Int.eq_ofNat_of_zero_le r90
    refine ⟨_, rfl, _, rfl, m, _, rfl, dv9.gi, i', _, rfl, .inl (SqL.of dv9.hi), p, l, ((ins.map V.str).length : Int), rfl, dl9, by omega, lg (b := 10) (by omega) (by decide) (by decide), fun H10 r10 k10 dl10 r100 r101 => ?_⟩
    have dv10 := dv9.kp k10
    obtain ⟨pl, rfl⟩ := Int.eq_ofNat_of_zero_le r100
    have k810 := k9.trans k10
    have wa10 := wa8.kp k810
    have wb10 := wb8.kp k810
    have sl : sd < T.length := by omega
    have plk : pl < ins.length := by omega
    refine ⟨_, _, rfl, ?_⟩
    obtain ⟨e1, tn, ge, etn, tl, sle⟩ := shw_get law.shw sl plk
    obtain ⟨row, hrow, erow⟩ := getE_row ge
    have rl := law.rl row (List.mem_of_getElem? hrow)
    obtain ⟨vs, b, us, c, t, a1, a2, a3, a4, a5, a6⟩ := tab_at (K := K) dv10.ht ge
    refine ⟨_, rfl, m, _, rfl, dv10.gr, _, rfl, .inl ⟨q', vs, _, _, rfl, rfl, SqL.of a1, atI_nat (j := sd) a2, _, rfl, .inl ⟨b, us, _, _, rfl, rfl, SqL.of a3, atI_nat (j := pl) a4, c, _, rfl, SqT.of a5, rfl, _, _, rfl, _, _, rfl, rfl, ?_⟩⟩⟩
    -- the two entries
    have lvs : vs.length = T.length := by
      obtain ⟨vs', h1, h2⟩ := dv10.ht
      have e' : vs' = vs := HO.lst.inj (Option.some.inj (h1.symm.trans a1))
      rw [← e']
      exact h2.length
    refine ⟨_, rfl, _, rfl, m, _, rfl, dv10.gr, q', vs, rfl, .inl (SqL.of a1), p, l, (vs.length : Int), rfl, dl10, by omega, lg (b := 10) (by omega) (by decide) (by decide), fun H11 r11 k11 dl11 r110 r111 => ?_⟩
    obtain ⟨nx, rfl⟩ := Int.eq_ofNat_of_zero_le r110
    refine ⟨_, rfl, (by show 2 ≤ sizeLine; decide), fun g1 ng1 => ?_⟩
    have z1 := same_upd (o := .tup [.int (nx : Nat), .ref t]) ng1
    have t11 := k11.keep _ _ nd_tup a6
    have t12 := z1 _ _ t11
    have hg1 : (upd H11 g1 (.tup [.int (nx : Nat), .ref t])) g1 = some (.tup [.int (nx : Nat), .ref t]) := upd_same
    have k12 := k11.trans (Kp.of z1)
    have dl12 := dl11.same z1
    generalize (upd H11 g1 (.tup [.int (nx : Nat), .ref t])) = H12 at *
    refine ⟨_, rfl, _, rfl, t, rfl, ⟨_, SqT.of t12⟩, fun D3 nD3 => ?_⟩
    refine lc_tup (K := K) (a := t) (xs := e1.2.map V.int) (fun j H' => Same H12 H' ∧ H' D3 = some (.lst (((e1.2.take j).map fun x => x + 1).map V.int))) ⟨same_upd nD3, upd_same⟩ (fun j H' _ ⟨sm, _⟩ => same_t sm (SqT.of t12)) ?_ ?_
    · rintro j x H13 hx ⟨sm13, hD13⟩
      obtain ⟨x', hx', rfl⟩ := map_int_get hx
      have jl := (List.getElem?_eq_some_iff.mp hx').1
      refine ⟨rfl, ?_⟩
      refine ⟨_, rfl, _, _, rfl, rfl, _, hD13, (by rw [List.length_map, List.length_map, List.length_take]; exact small1000 (by omega)), sm13.put nD3, ?_⟩
      rw [upd_same, List.take_add_one, hx']
      simp
    rintro H13 ⟨sm13, hD13⟩
    rw [List.length_map, List.take_length] at hD13
    refine ⟨D3, _, rfl, .inl ⟨SqL.of hD13, fun t3 nt3 => ?_⟩⟩
    have z3 := same_upd (o := .tup ((e1.2.map fun x => x + 1).map V.int)) nt3
    refine ⟨(by show 2 ≤ sizeLine; decide), fun g2 ng2 => ?_⟩
    have z4 := same_upd (o := .tup [.int e1.1, .ref t3]) ng2
    refine ⟨(by show 2 ≤ sizeLine; decide), fun fl nfl => ?_⟩
    have z5 := same_upd (o := .lst [.ref g1, .ref g2]) nfl
    have z45 := z4.trans z5
    have z35 := z3.trans z45
    have en1 : EntAt (upd (upd (upd H13 t3 (.tup ((e1.2.map fun x => x + 1).map V.int))) g2 (.tup [.int e1.1, .ref t3])) fl (.lst [.ref g1, .ref g2])) (.ref g1) ((nx : Nat), e1.2) := ⟨g1, t, rfl, z35 _ _ (sm13 _ _ hg1), z35 _ _ (sm13 _ _ t12)⟩
    have en2 : EntAt (upd (upd (upd H13 t3 (.tup ((e1.2.map fun x => x + 1).map V.int))) g2 (.tup [.int e1.1, .ref t3])) fl (.lst [.ref g1, .ref g2])) (.ref g2) (e1.1, e1.2.map fun x => x + 1) := ⟨g2, t3, rfl, z5 _ _ upd_same, z45 _ _ upd_same⟩
    have hfl : (upd (upd (upd H13 t3 (.tup ((e1.2.map fun x => x + 1).map V.int))) g2 (.tup [.int e1.1, .ref t3])) fl (.lst [.ref g1, .ref g2])) fl = some (.lst ([g1, g2].map V.ref)) := upd_same
    have k14 := k12.trans (Kp.of (sm13.trans z35))
    have dl14 := (dl12.same sm13).same z35
    generalize (upd (upd (upd H13 t3 (.tup ((e1.2.map fun x => x + 1).map V.int))) g2 (.tup [.int e1.1, .ref t3])) fl (.lst [.ref g1, .ref g2])) = H14 at *
    refine ⟨_, rfl, _, rfl, p, l, fl, [g1, g2].map V.ref, rfl, dl14, hfl, nd_refs, (by show 0 < 2; decide), (by show 2 ≤ 1000; decide), fun H15 x15 hx15 k15 dl15 => ?_⟩
    obtain ⟨e2, en15, nx2, sz2, sv2⟩ : ∃ e2 : Ent, EntAt H15 x15 e2 ∧ (∃ t : Nat, e2.1 = t ∧ t < T.length) ∧ e2.2.length = outs.length ∧ ∀ x ∈ e2.2, 0 ≤ x ∧ x ≤ 1000000 := by
      have ein := List.mem_of_getElem? erow
      have rin := List.mem_of_getElem? hrow
      have sv := law.sv row rin e1 ein
      have hx' : x15 = .ref g1 ∨ x15 = .ref g2 := by simpa using hx15
      rcases hx' with rfl | rfl
      · exact ⟨_, en1.kp k15, ⟨nx, rfl, by omega⟩, sle, fun x hx => by have := sv x hx; omega⟩
      · refine ⟨_, en2.kp k15, ⟨tn, etn, tl⟩, by rw [List.length_map]; exact sle, fun x hx => ?_⟩
        obtain ⟨x', hx', rfl⟩ := List.mem_map.mp hx
        have := sv x' hx'
        omega
    have k105 := k14.trans k15
    have dv15 := dv10.kp k105
    have wa15 := wa10.kp k105
    have wb15 := wb10.kp k105
    obtain ⟨ws, b', us', c', t', b1, b2, b3, b4, b5, b6⟩ := tab_at (K := K) dv15.ht ge
    obtain ⟨vt', hvt', pvt'⟩ := id dv15.ht
    have ews : vt' = ws := HO.lst.inj (Option.some.inj (hvt'.symm.trans b1))
    subst ews
    have lws := pvt'.length
    have hrow15 : Paired (EntAt H15) us' row := by
      obtain ⟨row', hr', b2', us2, e2', hb2', pe2⟩ := paired_get pvt' sd _ b2
      rw [hrow] at hr'
      cases Option.some.inj hr'
      cases e2'
      rw [b3] at hb2'
      have e3 := HO.lst.inj (Option.some.inj hb2')
      rw [e3]
      exact pe2
    have lus' := hrow15.length
    refine ⟨_, rfl, m, _, rfl, dv15.gr, _, rfl, q', _, _, _, rfl, rfl, SqL.of b1, atI_nat (j := sd) b2, _, rfl, _, rfl, b', us', rfl, SqL.of b3, fun g3 n3 => ?_⟩
    rw [cutTake]
    have y3 := same_upd (o := .lst (us'.take pl)) n3
    have hg3 : (upd H15 g3 (.lst (us'.take pl))) g3 = some (.lst (us'.take pl)) := upd_same
    refine ⟨_, rfl, (by show 1 ≤ sizeLine; decide), fun z nz => ?_⟩
    have yz := same_upd (o := .lst [x15]) nz
    refine ⟨g3, z, _, _, rfl, rfl, yz _ _ hg3, upd_same, Nat.le_of_lt (small1000 (by rw [List.length_take]; show _ + 1 ≤ 1000; omega)), fun g4 n4 => ?_⟩
    have y4 := same_upd (o := .lst (us'.take pl ++ [x15])) n4
    have hg4 : (upd (upd (upd H15 g3 (.lst (us'.take pl))) z (.lst [x15])) g4 (.lst (us'.take pl ++ [x15]))) g4 = some (.lst (us'.take pl ++ [x15])) := upd_same
    have y14 := (y3.trans yz).trans y4
    have dv16 := dv15.same y14
    generalize (upd (upd (upd H15 g3 (.lst (us'.take pl))) z (.lst [x15])) g4 (.lst (us'.take pl ++ [x15]))) = H16 at *
    refine ⟨_, rfl, m, _, rfl, dv16.gr, _, rfl, q', _, _, _, rfl, rfl, SqL.of (y14 _ _ b1), atI_nat (j := sd) b2, _, rfl, _, _, rfl, rfl, _, rfl, b', us', rfl, SqL.of (y14 _ _ b3), fun g5 n5 => ?_⟩
    rw [show ((pl : Nat) : Int) + 1 = ((pl + 1 : Nat) : Int) by omega, cutDropN]
    have y5 := same_upd (o := .lst (us'.drop (pl + 1))) n5
    refine ⟨g4, g5, _, _, rfl, rfl, y5 _ _ hg4, upd_same, Nat.le_of_lt (small1000 (by rw [List.length_append, List.length_take, List.length_drop, List.length_singleton]; omega)), fun g6 n6 => ?_⟩
    have y6 := same_upd (o := .lst (us'.take pl ++ [x15] ++ us'.drop (pl + 1))) n6
    have hg6 : (upd (upd H16 g5 (.lst (us'.drop (pl + 1)))) g6 (.lst (us'.take pl ++ [x15] ++ us'.drop (pl + 1)))) g6 = some (.lst (us'.take pl ++ [x15] ++ us'.drop (pl + 1))) := upd_same
    have y56 := y5.trans y6
    have y16 := y14.trans y56
    have ng6 : g6 ≠ q' := ne_of_fresh (y5 _ _ (y14 _ _ b1)) n6
    have dv17 := dv16.same y56
    have dl17 := dl15.same y16
    have wa17 := wa15.kp (Kp.of y16)
    have wb17 := wb15.kp (Kp.of y16)
    have c1 := y16 _ _ b1
    have prow := paired_mono (fun _ _ h => EntAt.same y16 h) hrow15
    have en17 := en15.same y16
    generalize (upd (upd H16 g5 (.lst (us'.drop (pl + 1)))) g6 (.lst (us'.take pl ++ [x15] ++ us'.drop (pl + 1)))) = H17 at *
    refine ⟨_, rfl, m, _, rfl, dv17.gr, _, rfl, q', _, _, sd, rfl, rfl, c1, Evl.ixN_nat (by omega), ?_⟩
    have pnew : Paired (EntAt H17) (us'.take pl ++ [x15] ++ us'.drop (pl + 1)) (rowSet row pl e2) := paired_app (paired_app (paired_take prow pl) (.cons en17 .nil)) (paired_drop prow (pl + 1))
    obtain ⟨f1, f2, f3, f4, f5, f6⟩ : ∃ (bb cc tt : Addr) (xx : Int) (uu : List V), vt'[0]? = some (.ref bb) ∧ H17 bb = some (.lst uu) ∧ uu[0]? = some (.ref cc) ∧ H17 cc = some (.tup [.int xx, .ref tt]) := by
      obtain ⟨e0, _, ge0, _⟩ := shw_get law.shw (show 0 < T.length by omega) (show 0 < ins.length by omega)
      obtain ⟨w1, w2, w3, w4, w5, h1, h2, h3, h4, h5, _⟩ := tab_at (K := K) dv17.ht ge0
      have e1' := HO.lst.inj (Option.some.inj (h1.symm.trans c1))
      subst e1'
      exact ⟨w2, w4, w5, _, w3, h2, h3, h4, h5⟩
    obtain ⟨f7, f8, f9, f10⟩ := f6
    have nqp : q' ≠ p := dl17.other c1 (nd_rf fun v hv => by
      obtain ⟨j, hj⟩ := List.getElem?_of_mem hv
      obtain ⟨_, _, b'', _, e3, _⟩ := paired_get pvt' j v hj
      exact ⟨b'', e3⟩)
    have nql : q' ≠ l := fun zz => by
      obtain ⟨ns', a', z', m', c'', _, hl', _⟩ := dl17
      rw [zz, hl'] at c1
      have e3 := HO.lst.inj (Option.some.inj c1)
      rw [← e3] at b2
      obtain ⟨_, _, e4⟩ := map_int_get b2
      cases e4
    refine ⟨_, _, _, _, _, T.set sd (rowSet row pl e2), rfl, dl17.put nqp nql, ⟨?_, ?_, ?_, ?_⟩, law.shw.set hrow plk nx2 sz2, law.svw.set hrow sv2, wa17.putq c1 f7 f8 f9 f10, wb17.putq c1 f7 f8 f9 f10⟩
    · rw [upd_ne (fun zz => by have := dv17.d; rw [zz, c1] at this; cases this)]
      exact dv17.d
    · rw [upd_ne (fun zz => by
        have := dv17.hi
        rw [zz, c1] at this
        have e3 := HO.lst.inj (Option.some.inj this)
        rw [e3] at f7
        obtain ⟨_, _, e4⟩ := map_str_get f7
        cases e4)]
      exact dv17.hi
    · rw [upd_ne (fun zz => by
        have := dv17.ho
        rw [zz, c1] at this
        have e3 := HO.lst.inj (Option.some.inj this)
        rw [e3] at f7
        obtain ⟨_, _, e4⟩ := map_str_get f7
        cases e4)]
      exact dv17.ho
    · exact dv17.ht.putq c1 (law.shw.ne i1) (fun zz => by rw [zz] at n1; simp at n1) hg6 ng6 pnew
  rintro σ' H8 ⟨w7, w8, w9, w10, w11, T', rfl, dl8, dv8, shp, svw, wa8, wb8⟩
  have n60' := shp.n60
  have n1' := shp.n1
  clear dv7 dl7 wa7 wb7 law
  -- bends
  refine ⟨_, rfl, (by show 4 ≤ sizeLine; decide), fun c nc => ?_⟩
  have sc := same_upd (o := .lst (([0, 0, 1, 2] : List Int).map V.int)) nc
  refine ⟨p, l, c, ([0, 0, 1, 2] : List Int).map V.int, rfl, dl8.same sc, upd_same, nd_ints, by decide, by decide, fun H9 x9 hx9 k9 dl9 => ?_⟩
  obtain ⟨nbd, hnb, rfl⟩ := List.mem_map.mp hx9
  have bb : 0 ≤ nbd ∧ nbd ≤ 2 := by
    simp only [List.mem_cons, List.not_mem_nil, or_false] at hnb
    omega
  have k89 := (Kp.of sc).trans k9
  refine ⟨nbd, rfl, by omega, by omega, ?_⟩
  refine for_range (lo := 0) (n := nbd.toNat) (fun j σ H' => ∃ (qa qb : Addr) (v12 : Option V), σ = [some (.ref a), some (.ref p), some (.int (0 + i)), some (.ref m), some (.ref qa), some (.ref qb), some (.int up), w7, w8, w9, w10, w11, v12, v13, v14, v15, none, none] ∧ Deal H' p l ∧ Dev H' m i' o' q' ins outs T' ∧ LsW (52 + 2 * j) (18 + 2 * j) H' qa (60 + j) ∧ LsW (52 + 2 * j) (18 + 2 * j) H' qb (60 + j))
    ⟨qa, Db, _, rfl, dl9, dv8.kp k89, wa8.kp k89, wb8.kp k89⟩ ?_ ?_
  · rintro j σ H10 hj ⟨qa, qb, u12, rfl, dl10, dv10, wa10, wb10⟩
    have jb : j ≤ 1 := by omega
    refine ⟨_, rfl, p, l, 2, rfl, dl10, by decide, lg (b := 11) (by decide) (by decide) (by decide), fun H11 r11 k11 dl11 r110 r111 => ?_⟩
    have dv11 := dv10.kp k11
    have wa11 := wa10.kp k11
    have wb11 := wb10.kp k11
    have up1 : ∀ {H' : Hp} {q : Addr}, LsW (52 + 2 * j) (18 + 2 * j) H' q (60 + j) → LsW (52 + 2 * (j + 1)) (18 + 2 * (j + 1)) H' q (60 + (j + 1)) := fun h => h.mono (by omega) (by omega) (by omega)
    refine ⟨rfl, _, rfl, ite2 (fun e => ?_) (fun e => ?_)⟩
    · obtain ⟨vs0, hq0, l0, a0⟩ := id wa11
      obtain ⟨La, pLa, _, _⟩ := rww_all a0
      have lLa := pLa.length
      refine ⟨_, rfl, Nat.zero_le _, fun za nza => ?_⟩
      have sza := same_upd (o := .lst []) nza
      refine ⟨_, _, ls_dp (LsF.same sza ⟨vs0, hq0, pLa⟩), .lst (SqL.of upd_same) .nil, ls_shaped La, rw_shaped [], _, rfl, ?_⟩
      have wb12 := wb11.kp (Kp.of sza)
      have wa12 := wa11.kp (Kp.of sza)
      have dv12 := dv11.kp (Kp.of sza)
      have dl12' := dl11.same sza
      have hqz := sza _ _ hq0
      have a0z : ∀ v ∈ vs0, RwW (52 + 2 * j) (18 + 2 * j) (upd H11 za (.lst [])) v := fun v hv => (a0 v hv).kp (Kp.of sza)
      generalize (upd H11 za (.lst [])) = H12 at *
      rw [ls_eqv_nil]
      refine ite2 (fun e2 => ?_) (fun e2 => ?_)
      · have ne0 : 0 < vs0.length := by
          cases La with
          | nil => simp at e2
          | cons r La =>
            rw [lLa]
            exact Nat.succ_pos _
        refine ⟨_, rfl, _, rfl, p, l, qa, 52 + 2 * j, 18 + 2 * j, 60 + j, vs0, rfl, dl12', hqz, ne0, l0, by omega, by omega, by omega, a0z, fun H13 q13 k13 dl13 w13 => ?_⟩
        exact ⟨q13, qb, _, rfl, dl13, dv12.kp k13, w13, up1 (wb12.kp k13)⟩
      · obtain ⟨vs0, hq0, l0, a0⟩ := id wb12
        obtain ⟨Lb, pLb, _, _⟩ := rww_all a0
        have lLb := pLb.length
        refine ⟨_, rfl, Nat.zero_le _, fun zb nzb => ?_⟩
        have szb := same_upd (o := .lst []) nzb
        refine ⟨_, _, ls_dp (LsF.same szb ⟨vs0, hq0, pLb⟩), .lst (SqL.of upd_same) .nil, ls_shaped Lb, rw_shaped [], _, rfl, ?_⟩
        have wbz := wb12.kp (Kp.of szb)
        have waz := wa12.kp (Kp.of szb)
        have dvz := dv12.kp (Kp.of szb)
        have dlz := dl12'.same szb
        have hqz := szb _ _ hq0
        have a0z : ∀ v ∈ vs0, RwW (52 + 2 * j) (18 + 2 * j) (upd H12 zb (.lst [])) v := fun v hv => (a0 v hv).kp (Kp.of szb)
        generalize (upd H12 zb (.lst [])) = Hz at *
        rw [ls_eqv_nil]
        refine ite2 (fun e3 => ?_) (fun e3 => ⟨qa, qb, _, rfl, dlz, dvz, up1 waz, up1 wbz⟩)
        have ne0 : 0 < vs0.length := by
          cases Lb with
          | nil => simp at e3
          | cons r Lb =>
            rw [lLb]
            exact Nat.succ_pos _
        refine ⟨_, rfl, _, rfl, p, l, qb, 52 + 2 * j, 18 + 2 * j, 60 + j, vs0, rfl, dlz, hqz, ne0, l0, by omega, by omega, by omega, a0z, fun H14 q12 k12 dl14 w12 => ?_⟩
        exact ⟨qa, q12, _, rfl, dl14, dvz.kp k12, up1 (waz.kp k12), w12⟩
    · obtain ⟨vs0, hq0, l0, a0⟩ := id wb11
      obtain ⟨Lb, pLb, _, _⟩ := rww_all a0
      have lLb := pLb.length
      refine ⟨_, rfl, Nat.zero_le _, fun zb nzb => ?_⟩
      have szb := same_upd (o := .lst []) nzb
      refine ⟨_, _, ls_dp (LsF.same szb ⟨vs0, hq0, pLb⟩), .lst (SqL.of upd_same) .nil, ls_shaped Lb, rw_shaped [], _, rfl, ?_⟩
      have wbz := wb11.kp (Kp.of szb)
      have waz := wa11.kp (Kp.of szb)
      have dvz := dv11.kp (Kp.of szb)
      have dlz := dl11.same szb
      have hqz := szb _ _ hq0
      have a0z : ∀ v ∈ vs0, RwW (52 + 2 * j) (18 + 2 * j) (upd H11 zb (.lst [])) v := fun v hv => (a0 v hv).kp (Kp.of szb)
      generalize (upd H11 zb (.lst [])) = Hz at *
      rw [ls_eqv_nil]
      refine ite2 (fun e3 => ?_) (fun e3 => ⟨qa, qb, _, rfl, dlz, dvz, up1 waz, up1 wbz⟩)
      have ne0 : 0 < vs0.length := by
        cases Lb with
        | nil => simp at e3
        | cons r Lb =>
          rw [lLb]
          exact Nat.succ_pos _
      refine ⟨_, rfl, _, rfl, p, l, qb, 52 + 2 * j, 18 + 2 * j, 60 + j, vs0, rfl, dlz, hqz, ne0, l0, by omega, by omega, by omega, a0z, fun H12 q12 k12 dl12 w12 => ?_⟩
      exact ⟨qa, q12, _, rfl, dl12, dvz.kp k12, up1 (waz.kp k12), w12⟩
  rintro σ H10 ⟨qa2, qb2, u12, rfl, dl10, dv10, wa10, wb10⟩
  have wa10' := wa10.mono (c' := 56) (d' := 22) (n' := 62) (by omega) (by omega) (by omega)
  have wb10' := wb10.mono (c' := 56) (d' := 22) (n' := 62) (by omega) (by omega) (by omega)
  obtain ⟨R, hR, bdR, r3, lR⟩ := wa10'.ex
  obtain ⟨Bg, hB, bdB, b3, lB⟩ := wb10'.ex
  obtain ⟨vt, hvt, pvt⟩ := id dv10.ht
  obtain ⟨vr, hvr, pvr⟩ := id hR
  obtain ⟨vq, hvq, pvq⟩ := id hB
  have lvt := pvt.length
  have lvr := pvr.length
  have lvq := pvq.length
  -- the three lists that are handed in
  refine ⟨_, rfl, m, _, rfl, dv10.gr, q', rfl, ⟨_, SqL.of hvt⟩, fun E1 nE1 => ?_⟩
  refine lc_list (K := K) (a := q') (xs := vt) (fun j H' => ∃ ws : List V, Same H10 H' ∧ H' E1 = some (.lst ws) ∧ Paired (RowAt (st [E1] H')) ws (T'.take j)) ⟨[], same_upd nE1, upd_same, by rw [List.take_zero]; exact .nil⟩ (fun j H' _ ⟨_, sm, _⟩ => SqL.of (sm _ _ hvt)) ?_ ?_
  · rintro j x H11 hx ⟨ws, sm11, hE11, pw11⟩
    obtain ⟨row, hrow, b, us, rfl, hb, pe⟩ := paired_get pvt j x hx
    have lws := pw11.length
    rw [List.length_take] at lws
    have jl := (List.getElem?_eq_some_iff.mp hrow).1
    refine ⟨rfl, ?_⟩
    refine ⟨_, rfl, b, us, rfl, .inl (SqL.of (sm11 _ _ hb)), fun g ng => ?_⟩
    have sg := same_upd (o := .lst us) ng
    have ngE : g ≠ E1 := ne_of_fresh hE11 ng
    refine ⟨_, sg _ _ hE11, small1000 (by omega), ws ++ [.ref g], (sm11.trans sg).put nE1, upd_same, ?_⟩
    rw [st_upd (by simp), List.take_add_one, hrow]
    refine paired_snoc (paired_mono (fun _ _ => RowAt.same (st_mono sg)) pw11) ⟨g, us, rfl, by rw [st_get (by simp [ngE]), upd_same], paired_mono (fun v e ⟨c, t, e1, hc, ht⟩ => ⟨c, t, e1, ?_, ?_⟩) pe⟩
    · rw [st_get (by simp; intro z; rw [z] at hc; have := sm11 _ _ hc; rw [hE11] at this; cases this)]
      exact sg _ _ (sm11 _ _ hc)
    · rw [st_get (by simp; intro z; rw [z] at ht; have := sm11 _ _ ht; rw [hE11] at this; cases this)]
      exact sg _ _ (sm11 _ _ ht)
  rintro H11 ⟨w1, sm11, hE1, pw1⟩
  rw [lvt, List.take_length] at pw1
  have tab1 : TabAt H11 E1 T' := ⟨w1, hE1, paired_mono (fun _ _ => RowAt.same st_same) pw1⟩
  have cpy : ∀ {tf tt : Bool} {H0 H' : Hp} {E : Addr} {v : V} {r : Prs} {g : Addr} {us : List V} {ps : Prs}, True := trivial
  refine ⟨_, rfl, qa2, rfl, ⟨_, SqL.of (sm11 _ _ hvr)⟩, fun E2 nE2 => ?_⟩
  refine lc_list (K := K) (a := qa2) (xs := vr) (fun j H' => ∃ ws : List V, Same H11 H' ∧ H' E2 = some (.lst ws) ∧ Paired (RwAt false (st [E2] H')) ws (R.take j)) ⟨[], same_upd nE2, upd_same, by rw [List.take_zero]; exact .nil⟩ (fun j H' _ ⟨_, sm, _⟩ => SqL.of (sm _ _ (sm11 _ _ hvr))) ?_ ?_
  · rintro j x H12 hx ⟨ws, sm12, hE12, pw12⟩
    obtain ⟨ps, hps, b, us, rfl, hb, pr⟩ := paired_get pvr j x hx
    have lws := pw12.length
    rw [List.length_take] at lws
    have jl := (List.getElem?_eq_some_iff.mp hps).1
    have s12 := sm11.trans sm12
    refine ⟨rfl, ?_⟩
    refine ⟨_, rfl, b, us, rfl, .inl (SqL.of (s12 _ _ hb)), fun g ng => ?_⟩
    have sg := same_upd (o := .lst us) ng
    have ngE : g ≠ E2 := ne_of_fresh hE12 ng
    refine ⟨_, sg _ _ hE12, small1000 (by omega), ws ++ [.ref g], (sm12.trans sg).put nE2, upd_same, ?_⟩
    rw [st_upd (by simp), List.take_add_one, hps]
    refine paired_snoc (paired_mono (fun _ _ => RwAt.same (st_mono sg)) pw12) ⟨g, us, rfl, by rw [st_get (by simp [ngE]), upd_same]; rfl, paired_mono (fun v e ⟨c, e1, hc⟩ => ⟨c, e1, ?_⟩) pr⟩
    rw [st_get (by simp; intro z; rw [z] at hc; have := s12 _ _ hc; rw [hE12] at this; cases this)]
    exact sg _ _ (s12 _ _ hc)
  rintro H12 ⟨w2, sm12, hE2, pw2⟩
  rw [lvr, List.take_length] at pw2
  have ls2 : LsF false H12 E2 R := ⟨w2, hE2, paired_mono (fun _ _ => RwAt.same st_same) pw2⟩
  have s12 := sm11.trans sm12
  refine ⟨_, rfl, qb2, rfl, ⟨_, SqL.of (s12 _ _ hvq)⟩, fun E3 nE3 => ?_⟩
  refine lc_list (K := K) (a := qb2) (xs := vq) (fun j H' => ∃ ws : List V, Same H12 H' ∧ H' E3 = some (.lst ws) ∧ Paired (RwAt true (st [E3] H')) ws (Bg.take j)) ⟨[], same_upd nE3, upd_same, by rw [List.take_zero]; exact .nil⟩ (fun j H' _ ⟨_, sm, _⟩ => SqL.of (sm _ _ (s12 _ _ hvq))) ?_ ?_
  · rintro j x H13 hx ⟨ws, sm13, hE13, pw13⟩
    obtain ⟨ps, hps, b, us, rfl, hb, pr⟩ := paired_get pvq j x hx
    have lws := pw13.length
    rw [List.length_take] at lws
    have jl := (List.getElem?_eq_some_iff.mp hps).1
    have s13 := s12.trans sm13
    refine ⟨rfl, ?_⟩
    refine ⟨_, rfl, b, us, rfl, .inl ⟨SqL.of (s13 _ _ hb), fun g ng => ?_⟩⟩
    have sg := same_upd (o := .tup us) ng
    have ngE : g ≠ E3 := ne_of_fresh hE13 ng
    refine ⟨_, sg _ _ hE13, small1000 (by omega), ws ++ [.ref g], (sm13.trans sg).put nE3, upd_same, ?_⟩
    rw [st_upd (by simp), List.take_add_one, hps]
    refine paired_snoc (paired_mono (fun _ _ => RwAt.same (st_mono sg)) pw13) ⟨g, us, rfl, by rw [st_get (by simp [ngE]), upd_same]; rfl, paired_mono (fun v e ⟨c, e1, hc⟩ => ⟨c, e1, ?_⟩) pr⟩
    rw [st_get (by simp; intro z; rw [z] at hc; have := s13 _ _ hc; rw [hE13] at this; cases this)]
    exact sg _ _ (s13 _ _ hc)
  rintro H13 ⟨w3, sm13, hE3, pw3⟩
  rw [lvq, List.take_length] at pw3
  have ls3 : LsF true H13 E3 Bg := ⟨w3, hE3, paired_mono (fun _ _ => RwAt.same st_same) pw3⟩
  refine ⟨(by show 3 ≤ sizeLine; decide), fun hd nhd => ?_⟩
  have shd := same_upd (o := .lst [.ref E1, .ref E2, .ref E3]) nhd
  have hhd : (upd H13 hd (.lst [.ref E1, .ref E2, .ref E3])) hd = some (.lst [.ref E1, .ref E2, .ref E3]) := upd_same
  have s10 := (s12.trans sm13).trans shd
  have t1 := ((tab1.same sm12).same sm13).same shd
  have t2 := (ls2.same sm13).same shd
  have t3 := ls3.same shd
  have hRz := hR.same s10
  have hBz := hB.same s10
  have dv14 := dv10.same s10
  have dl14 := dl10.same s10
  generalize (upd H13 hd (.lst [.ref E1, .ref E2, .ref E3])) = H14 at *
  have tolF : ∀ H' : Hp, Same H14 H' → Tol P w H' (.ref hd) (hdD T' R Bg) := fun H' sm => tol_lst (sm _ _ hhd) (.cons (tab_tol (t1.same sm)) (.cons (LsF.tol (t2.same sm)) (.cons (LsF.tol (t3.same sm)) .nil)))
  obtain ⟨so1, so2, so3, so4⟩ := hd_ok n60' shp.rl shp.sl i3 o3 svw (fun row hr e he => by
    obtain ⟨t, et, tl⟩ := shp.nx row hr e he
    omega) (show R.length ≤ 62 from lR) (show Bg.length ≤ 62 from lB) r3 b3 bdR bdB
  refine ⟨_, rfl, hd, _, rfl, tolF _ (Same.refl _), so1, so2, so3, so4, ?_⟩
  refine ⟨_, rfl, hd, _, 0, _, rfl, rfl, SqL.of hhd, atI_nat (j := 0) rfl, _, rfl, hd, _, 2, _, rfl, rfl, SqL.of hhd, atI_nat (j := 2) rfl, _, rfl, hd, _, 1, _, rfl, rfl, SqL.of hhd, atI_nat (j := 1) rfl, rfl, rfl, ?_⟩
  refine ⟨E1, E2, E3, T', ins.length, outs.length, R, Bg, rfl, t1, shp, svw, i1, i3, o3, t2, t3, by omega, by omega, r3, b3, bdR, bdB, fun H15 bo sm15 io => ?_⟩
  refine ⟨_, rfl, _, rfl, _, rfl, _, rfl, m, i', o', q', qa2, qb2, ins, outs, T', R, Bg, rfl, dv14.same sm15, shp, svw, i1, i3, o3, hRz.same sm15, hBz.same sm15, by omega, by omega, r3, b3, bdR, bdB, fun H16 bh sm16 ih => ?_⟩
  have ebb : bo = bh := by
    cases bo with
    | true => exact (ih.mpr (io.mp rfl)).symm
    | false =>
      cases bh with
      | false => rfl
      | true => exact absurd (io.mpr (ih.mp rfl)) (by simp)
  subst ebb
  refine ⟨_, _, rfl, .bl bo, fun H17 sm17 => ⟨_, rfl, iF rfl ?_⟩⟩
  have s17 := (sm15.trans sm16).trans sm17
  refine ⟨_, rfl, hd, _, rfl, tolF _ s17, so1, so2, so3, so4, _, rfl, rfl, _, rfl, iF (by simp) ?_⟩
  exact ⟨_, _, _, _, _, _, _, _, _, _, _, _, _, _, rfl, dl14.same s17⟩

end
end Hl

set_option Elab.async false
set_option linter.all false
set_option maxRecDepth 100000
set_option maxHeartbeats 4000000
namespace Hl
open PySem PySem.Spec PyProof.Rows L2
theorem walk_topE {l : PySem.W.OpenLaw} {n : Nat} {q : Program} {loose : List Str} {XP : (Str → Option Value) → Heap → Prop} {YP : World → Heap → Prop} {d : DefRec}
    (hn : l.most = some n) (hn2 : n ≤ sizeLine) (hdf : d.params.defaults = [])
    (T : ∀ (w : World) (mg : Str → Option Value) (fa : Addr) (h : Heap), YP w h → h.Ns mainGlobals mg → mg d.name = some (.ref fa) → ∃ K : PySem.W.Frag, K.In h ∧ ∃ sp : Sp, (∀ (a : Addr) (base : Heap), K.In base → base.Ns mainGlobals mg → Top l.prog w K mg base fa a sp) ∧ ∀ (H : Hp) (a : Addr) (ns : List Int), ns.length ≤ n → SqL K H a (ns.map V.int) → sp [.ref a] H (fun v _ => v = .bl true) E0) :
    PySem.W.WalkO q loose XP YP l.row.toRowW d [] (fun f vs => PySem.call f vs) := by
  refine Att.attach_call hn hdf fun w s₀ s₁ mg mb fa o pm cd doc a vs ns G Y ho hd hcd hmg hobj hints hlen hg => ?_
  obtain ⟨K, KX, sp, T', want⟩ := T w mg fa _ Y G.T.g hmg
  have rv := vals_ints hints
  have small : (ns.map V.int).length ≤ sizeLine := by rw [List.length_map]; exact Nat.le_trans hlen hn2
  cases hk : K.lookup a with
  | some o' =>
    have e := KX a o' hk
    rw [hobj] at e
    cases e
    exact top_run KX G.T.g G.T.b G.T.builtins G.T.nolimit hg hobj rv small (T' a) (H := fun _ => none) (fun b u z => nomatch z)
      (want _ a ns hlen (.inr ⟨_, vs.toArray, _, hk, rfl, rfl, rfl, by rw [List.size_toArray, ← rv.length]; exact small, by simpa using rv⟩))
  | none =>
    exact top_run KX G.T.g G.T.b G.T.builtins G.T.nolimit hg hobj rv small (T' a) (H := fun b => if b = a then some (.frz { cls := .type "list", data := .seq vs.toArray } (.lst (ns.map V.int))) else none)
      (fun b u z => by
        by_cases e : b = a
        · rw [if_pos e] at z
          cases z
          exact ⟨e, hk, rfl⟩
        · rw [if_neg e] at z
          cases z)
      (want _ a ns hlen (.inl (.inr ⟨_, if_pos rfl⟩)))
end Hl

set_option Elab.async false
set_option linter.all false
set_option maxRecDepth 100000
set_option maxHeartbeats 0
namespace Hl
open PySem PySem.Spec PyProof.Rows L2 LamX He
theorem all_x {l : PySem.W.OpenLaw} {w : World} {K : PySem.W.Frag} {h : Heap} {mg : Str → Option Value} {fa : Addr} (X : K.In h) (G : h.Ns mainGlobals mg) (hfa' : mg "law" = some (.ref fa)) (c : SaysX hfa hfn [] [] hex w h K) :
    ∃ sp : Sp, (∀ (a : Addr) (base : Heap), K.In base → base.Ns mainGlobals mg → Top l.prog w K mg base fa a sp) ∧ ∀ (H : Hp) (a : Addr) (ns : List Int), ns.length ≤ 63 → SqL K H a (ns.map V.int) → sp [.ref a] H (fun v _ => v = .bl true) E0 := by
  have cd := c.t.d
  have mr := c.more
  unfold hex at mr
  obtain ⟨fd1, D1⟩ := cd.def_ 0 (d := hd0) rfl
  have F1 : Fun K "letter_pairs" "letter_pairs" sLp (ga K "letter_pairs") fd1 := Hw.fun_of D1
  have k1 := F1.kp
  have g1 := He.glo_ok X G (cd.fact 0 (f := .glo "letter_pairs") rfl)
  have b1 := F1.binds (ps := ["letters"]) fun _ _ _ _ _ _ us hl => match us, hl with | [_], _ => rfl
  obtain ⟨fd2, D2⟩ := cd.def_ 1 (d := hd1) rfl
  have F2 : Fun K "_law_deal" "_law_deal" sDeal (ga K "_law_deal") fd2 := Hw.fun_of D2
  have k2 := F2.kp
  have g2 := He.glo_ok X G (cd.fact 1 (f := .glo "_law_deal") rfl)
  have b2 := F2.binds (ps := ["_law_script"]) fun _ _ _ _ _ _ us hl => match us, hl with | [_], _ => rfl
  obtain ⟨fd3, D3⟩ := cd.def_ 2 (d := hd2) rfl
  have F3 : Fun K "_law_pick" "_law_pick" sPick (ga K "_law_pick") fd3 := Hw.fun_of D3
  have k3 := F3.kp
  have g3 := He.glo_ok X G (cd.fact 2 (f := .glo "_law_pick") rfl)
  have b3 := F3.binds (ps := ["_law_deal_here", "_law_many"]) fun _ _ _ _ _ _ us hl => match us, hl with | [_, _], _ => rfl
  obtain ⟨fd4, D4⟩ := cd.def_ 3 (d := hd3) rfl
  have F4 : Fun K "_law_of" "_law_of" sOf (ga K "_law_of") fd4 := Hw.fun_of D4
  have k4 := F4.kp
  have g4 := He.glo_ok X G (cd.fact 3 (f := .glo "_law_of") rfl)
  have b4 := F4.binds (ps := ["_law_deal_here", "_law_some"]) fun _ _ _ _ _ _ us hl => match us, hl with | [_, _], _ => rfl
  obtain ⟨fd5, D5⟩ := cd.def_ 4 (d := hd4) rfl
  have F5 : Fun K "_law_like" "_law_like" sLike (ga K "_law_like") fd5 := Hw.fun_of D5
  have k5 := F5.kp
  have g5 := He.glo_ok X G (cd.fact 4 (f := .glo "_law_like") rfl)
  have b5 := F5.binds (ps := ["_law_found", "_law_due"]) fun _ _ _ _ _ _ us hl => match us, hl with | [_, _], _ => rfl
  obtain ⟨fd6, D6⟩ := cd.def_ 5 (d := hd5) rfl
  have F6 : Fun K "_law_names" "_law_names" sNames (ga K "_law_names") fd6 := Hw.fun_of D6
  have k6 := F6.kp
  have g6 := He.glo_ok X G (cd.fact 5 (f := .glo "_law_names") rfl)
  have b6 := F6.binds (ps := ["_law_deal_here", "_law_many"]) fun _ _ _ _ _ _ us hl => match us, hl with | [_, _], _ => rfl
  obtain ⟨fd7, D7⟩ := cd.def_ 6 (d := hd6) rfl
  have F7 : Fun K "_law_shuffled" "_law_shuffled" sShuf (ga K "_law_shuffled") fd7 := Hw.fun_of D7
  have k7 := F7.kp
  have g7 := He.glo_ok X G (cd.fact 6 (f := .glo "_law_shuffled") rfl)
  have b7 := F7.binds (ps := ["_law_deal_here", "_law_some"]) fun _ _ _ _ _ _ us hl => match us, hl with | [_, _], _ => rfl
  obtain ⟨fd8, D8⟩ := cd.def_ 7 (d := hd7) rfl
  have F8 : Fun K "_law_rule" "_law_rule" sRule (ga K "_law_rule") fd8 := Hw.fun_of D8
  have k8 := F8.kp
  have g8 := He.glo_ok X G (cd.fact 7 (f := .glo "_law_rule") rfl)
  have b8 := F8.binds (ps := ["_law_deal_here", "_law_ins", "_law_outs"]) fun _ _ _ _ _ _ us hl => match us, hl with | [_, _, _], _ => rfl
  obtain ⟨fd9, D9⟩ := cd.def_ 8 (d := hd8) rfl
  have F9 : Fun K "_law_down" "_law_down" sDown (ga K "_law_down") fd9 := Hw.fun_of D9
  have k9 := F9.kp
  have g9 := He.glo_ok X G (cd.fact 8 (f := .glo "_law_down") rfl)
  have b9 := F9.binds (ps := ["_law_rule_here", "_law_come"]) fun _ _ _ _ _ _ us hl => match us, hl with | [_, _], _ => rfl
  obtain ⟨fd10, D10⟩ := cd.def_ 9 (d := hd9) rfl
  have F10 : Fun K "_law_times_of" "_law_times_of" sTimes (ga K "_law_times_of") fd10 := Hw.fun_of D10
  have k10 := F10.kp
  have g10 := He.glo_ok X G (cd.fact 9 (f := .glo "_law_times_of") rfl)
  have b10 := F10.binds (ps := ["_law_rule_here", "_law_come"]) fun _ _ _ _ _ _ us hl => match us, hl with | [_, _], _ => rfl
  obtain ⟨fd11, D11⟩ := cd.def_ 10 (d := hd10) rfl
  have F11 : Fun K "_law_weight" "_law_weight" sWeight (ga K "_law_weight") fd11 := Hw.fun_of D11
  have k11 := F11.kp
  have g11 := He.glo_ok X G (cd.fact 10 (f := .glo "_law_weight") rfl)
  have b11 := F11.binds (ps := ["_law_rule_here", "_law_name"]) fun _ _ _ _ _ _ us hl => match us, hl with | [_, _], _ => rfl
  obtain ⟨fd12, D12⟩ := cd.def_ 11 (d := hd11) rfl
  have F12 : Fun K "_law_gain" "_law_gain" sGain (ga K "_law_gain") fd12 := Hw.fun_of D12
  have k12 := F12.kp
  have g12 := He.glo_ok X G (cd.fact 11 (f := .glo "_law_gain") rfl)
  have b12 := F12.binds (ps := ["_law_rules", "_law_outs", "_law_early", "_law_late"]) fun _ _ _ _ _ _ us hl => match us, hl with | [_, _, _, _], _ => rfl
  obtain ⟨fd13, D13⟩ := cd.def_ 12 (d := hd12) rfl
  have F13 : Fun K "_law_raw" "_law_raw" sRaw (ga K "_law_raw") fd13 := Hw.fun_of D13
  have k13 := F13.kp
  have g13 := He.glo_ok X G (cd.fact 12 (f := .glo "_law_raw") rfl)
  have b13 := F13.binds (ps := ["_law_rules", "_law_ins", "_law_outs", "_law_most"]) fun _ _ _ _ _ _ us hl => match us, hl with | [_, _, _, _], _ => rfl
  obtain ⟨fd14, D14⟩ := cd.def_ 13 (d := hd13) rfl
  have F14 : Fun K "_law_renumbered" "_law_renumbered" sRen (ga K "_law_renumbered") fd14 := Hw.fun_of D14
  have k14 := F14.kp
  have g14 := He.glo_ok X G (cd.fact 13 (f := .glo "_law_renumbered") rfl)
  have b14 := F14.binds (ps := ["_law_deal_here", "_law_rows"]) fun _ _ _ _ _ _ us hl => match us, hl with | [_, _], _ => rfl
  obtain ⟨fd15, D15⟩ := cd.def_ 14 (d := hd14) rfl
  have F15 : Fun K "_law_device" "_law_device" sDev (ga K "_law_device") fd15 := Hw.fun_of D15
  have k15 := F15.kp
  have g15 := He.glo_ok X G (cd.fact 14 (f := .glo "_law_device") rfl)
  have b15 := F15.binds (ps := ["_law_deal_here", "_law_ins", "_law_outs", "_law_most"]) fun _ _ _ _ _ _ us hl => match us, hl with | [_, _, _, _], _ => rfl
  obtain ⟨fd16, D16⟩ := cd.def_ 15 (d := hd15) rfl
  have F16 : Fun K "_law_any_device" "_law_any_device" sAny (ga K "_law_any_device") fd16 := Hw.fun_of D16
  have k16 := F16.kp
  have g16 := He.glo_ok X G (cd.fact 15 (f := .glo "_law_any_device") rfl)
  have b16 := F16.binds (ps := ["_law_deal_here", "_law_most"]) fun _ _ _ _ _ _ us hl => match us, hl with | [_, _], _ => rfl
  obtain ⟨fd17, D17⟩ := cd.def_ 16 (d := hd16) rfl
  have F17 : Fun K "_law_reached" "_law_reached" sLrc (ga K "_law_reached") fd17 := Hw.fun_of D17
  have k17 := F17.kp
  have g17 := He.glo_ok X G (cd.fact 16 (f := .glo "_law_reached") rfl)
  have b17 := F17.binds (ps := ["_law_rows", "_law_start"]) fun _ _ _ _ _ _ us hl => match us, hl with | [_, _], _ => rfl
  obtain ⟨fd18, D18⟩ := cd.def_ 17 (d := hd17) rfl
  have F18 : Fun K "greatest_common" "greatest_common" sGcd (ga K "greatest_common") fd18 := Hw.fun_of D18
  have k18 := F18.kp
  have g18 := He.glo_ok X G (cd.fact 17 (f := .glo "greatest_common") rfl)
  have b18 := F18.binds (ps := ["one", "other"]) fun _ _ _ _ _ _ us hl => match us, hl with | [_, _], _ => rfl
  obtain ⟨fd19, D19⟩ := cd.def_ 18 (d := hd18) rfl
  have F19 : Fun K "less" "less" sLess (ga K "less") fd19 := Hw.fun_of D19
  have k19 := F19.kp
  have g19 := He.glo_ok X G (cd.fact 18 (f := .glo "less") rfl)
  have b19 := F19.binds (ps := ["one", "other"]) fun _ _ _ _ _ _ us hl => match us, hl with | [_, _], _ => rfl
  obtain ⟨fd20, D20⟩ := cd.def_ 19 (d := hd19) rfl
  have F20 : Fun K "stands_hold" "stands_hold" sShd (ga K "stands_hold") fd20 := Hw.fun_of D20
  have k20 := F20.kp
  have g20 := He.glo_ok X G (cd.fact 19 (f := .glo "stands_hold") rfl)
  have b20 := F20.binds (ps := ["rows"]) fun _ _ _ _ _ _ us hl => match us, hl with | [_], _ => rfl
  obtain ⟨fd21, D21⟩ := cd.def_ 20 (d := hd20) rfl
  have F21 : Fun K "as_many" "as_many" sAm (ga K "as_many") fd21 := Hw.fun_of D21
  have k21 := F21.kp
  have g21 := He.glo_ok X G (cd.fact 20 (f := .glo "as_many") rfl)
  have b21 := F21.binds (ps := ["rows", "rates", "purses"]) fun _ _ _ _ _ _ us hl => match us, hl with | [_, _, _], _ => rfl
  obtain ⟨fd22, D22⟩ := cd.def_ 21 (d := hd21) rfl
  have F22 : Fun K "unders_hold" "unders_hold" sUh (ga K "unders_hold") fd22 := Hw.fun_of D22
  have k22 := F22.kp
  have g22 := He.glo_ok X G (cd.fact 21 (f := .glo "unders_hold") rfl)
  have b22 := F22.binds (ps := ["lines"]) fun _ _ _ _ _ _ us hl => match us, hl with | [_], _ => rfl
  obtain ⟨fd23, D23⟩ := cd.def_ 22 (d := hd22) rfl
  have F23 : Fun K "sends_hold" "sends_hold" sSe (ga K "sends_hold") fd23 := Hw.fun_of D23
  have k23 := F23.kp
  have g23 := He.glo_ok X G (cd.fact 22 (f := .glo "sends_hold") rfl)
  have b23 := F23.binds (ps := ["sends", "rates", "here", "there"]) fun _ _ _ _ _ _ us hl => match us, hl with | [_, _, _, _], _ => rfl
  obtain ⟨fd24, D24⟩ := cd.def_ 23 (d := hd23) rfl
  have F24 : Fun K "order_holds" "order_holds" sOh (ga K "order_holds") fd24 := Hw.fun_of D24
  have k24 := F24.kp
  have g24 := He.glo_ok X G (cd.fact 23 (f := .glo "order_holds") rfl)
  have b24 := F24.binds (ps := ["rows", "rates", "purses"]) fun _ _ _ _ _ _ us hl => match us, hl with | [_, _, _], _ => rfl
  obtain ⟨fd25, D25⟩ := cd.def_ 24 (d := hd24) rfl
  have F25 : Fun K "_law_low" "_law_low" sLow (ga K "_law_low") fd25 := Hw.fun_of D25
  have k25 := F25.kp
  have g25 := He.glo_ok X G (cd.fact 24 (f := .glo "_law_low") rfl)
  have b25 := F25.binds (ps := ["_law_over", "_law_under"]) fun _ _ _ _ _ _ us hl => match us, hl with | [_, _], _ => rfl
  obtain ⟨fd26, D26⟩ := cd.def_ 25 (d := hd25) rfl
  have F26 : Fun K "_law_sum" "_law_sum" sSum (ga K "_law_sum") fd26 := Hw.fun_of D26
  have k26 := F26.kp
  have g26 := He.glo_ok X G (cd.fact 25 (f := .glo "_law_sum") rfl)
  have b26 := F26.binds (ps := ["_law_one", "_law_other"]) fun _ _ _ _ _ _ us hl => match us, hl with | [_, _], _ => rfl
  obtain ⟨fd27, D27⟩ := cd.def_ 26 (d := hd26) rfl
  have F27 : Fun K "_law_walked" "_law_walked" sWk (ga K "_law_walked") fd27 := Hw.fun_of D27
  have k27 := F27.kp
  have g27 := He.glo_ok X G (cd.fact 26 (f := .glo "_law_walked") rfl)
  have b27 := F27.binds (ps := ["_law_m", "_law_start", "_law_places"]) fun _ _ _ _ _ _ us hl => match us, hl with | [_, _, _], _ => rfl
  obtain ⟨fd28, D28⟩ := cd.def_ 27 (d := hd27) rfl
  have F28 : Fun K "_law_heeding" "_law_heeding" sHd (ga K "_law_heeding") fd28 := Hw.fun_of D28
  have k28 := F28.kp
  have g28 := He.glo_ok X G (cd.fact 27 (f := .glo "_law_heeding") rfl)
  have b28 := F28.binds (ps := ["_law_m"]) fun _ _ _ _ _ _ us hl => match us, hl with | [_], _ => rfl
  obtain ⟨fd29, D29⟩ := cd.def_ 28 (d := hd28) rfl
  have F29 : Fun K "_law_again_from" "_law_again_from" sLaf (ga K "_law_again_from") fd29 := Hw.fun_of D29
  have k29 := F29.kp
  have g29 := He.glo_ok X G (cd.fact 28 (f := .glo "_law_again_from") rfl)
  have b29 := F29.binds (ps := ["_law_m", "_law_start"]) fun _ _ _ _ _ _ us hl => match us, hl with | [_, _], _ => rfl
  obtain ⟨fd30, D30⟩ := cd.def_ 29 (d := hd29) rfl
  have F30 : Fun K "_law_round" "_law_round" sLrd (ga K "_law_round") fd30 := Hw.fun_of D30
  have k30 := F30.kp
  have g30 := He.glo_ok X G (cd.fact 29 (f := .glo "_law_round") rfl)
  have b30 := F30.binds (ps := ["_law_m", "_law_place"]) fun _ _ _ _ _ _ us hl => match us, hl with | [_, _], _ => rfl
  obtain ⟨fd31, D31⟩ := cd.def_ 30 (d := hd30) rfl
  have F31 : Fun K "_law_rates" "_law_rates" sLrt (ga K "_law_rates") fd31 := Hw.fun_of D31
  have k31 := F31.kp
  have g31 := He.glo_ok X G (cd.fact 30 (f := .glo "_law_rates") rfl)
  have b31 := F31.binds (ps := ["_law_m"]) fun _ _ _ _ _ _ us hl => match us, hl with | [_], _ => rfl
  obtain ⟨fd32, D32⟩ := cd.def_ 31 (d := hd31) rfl
  have F32 : Fun K "_law_own_purses" "_law_own_purses" sOp (ga K "_law_own_purses") fd32 := Hw.fun_of D32
  have k32 := F32.kp
  have g32 := He.glo_ok X G (cd.fact 31 (f := .glo "_law_own_purses") rfl)
  have b32 := F32.binds (ps := ["_law_m"]) fun _ _ _ _ _ _ us hl => match us, hl with | [_], _ => rfl
  obtain ⟨fd33, D33⟩ := cd.def_ 32 (d := hd32) rfl
  have F33 : Fun K "_law_bent_lists" "_law_bent_lists" sBr (ga K "_law_bent_lists") fd33 := Hw.fun_of D33
  have k33 := F33.kp
  have g33 := He.glo_ok X G (cd.fact 32 (f := .glo "_law_bent_lists") rfl)
  have b33 := F33.binds (ps := ["_law_deal_here", "_law_lists"]) fun _ _ _ _ _ _ us hl => match us, hl with | [_, _], _ => rfl
  obtain ⟨fd34, D34⟩ := cd.def_ 33 (d := hd33) rfl
  have F34 : Fun K "_law_holds" "_law_holds" sHo (ga K "_law_holds") fd34 := Hw.fun_of D34
  have k34 := F34.kp
  have g34 := He.glo_ok X G (cd.fact 33 (f := .glo "_law_holds") rfl)
  have b34 := F34.binds (ps := ["_law_m", "_law_steady", "_law_bags"]) fun _ _ _ _ _ _ us hl => match us, hl with | [_, _, _], _ => rfl
  obtain ⟨fd35, D35⟩ := cd.def_ 34 (d := hd34) rfl
  have F35 : Fun K "law" "law" sLaw (ga K "law") fd35 := Hw.fun_of D35
  have k35 := F35.kp
  have g35 := He.glo_ok X G (cd.fact 34 (f := .glo "law") rfl)
  have z_isinstance := He.free_ok X G (cd.fact 35 (f := .free "isinstance") rfl)
  have z_list := He.free_ok X G (cd.fact 36 (f := .free "list") rfl)
  have z_tuple := He.free_ok X G (cd.fact 37 (f := .free "tuple") rfl)
  have z_len := He.free_ok X G (cd.fact 38 (f := .free "len") rfl)
  have z_all := He.free_ok X G (cd.fact 39 (f := .free "all") rfl)
  have z_range := He.free_ok X G (cd.fact 40 (f := .free "range") rfl)
  have z_bool := He.free_ok X G (cd.fact 41 (f := .free "bool") rfl)
  have z_int := He.free_ok X G (cd.fact 42 (f := .free "int") rfl)
  have z_str := He.free_ok X G (cd.fact 43 (f := .free "str") rfl)
  have z_abs := He.free_ok X G (cd.fact 44 (f := .free "abs") rfl)
  have z_min := He.free_ok X G (cd.fact 45 (f := .free "min") rfl)
  have z_max := He.free_ok X G (cd.fact 46 (f := .free "max") rfl)
  have z_sum := He.free_ok X G (cd.fact 47 (f := .free "sum") rfl)
  have z_zip := He.free_ok X G (cd.fact 48 (f := .free "zip") rfl)
  have z_sorted := He.free_ok X G (cd.fact 49 (f := .free "sorted") rfl)
  have z_enumerate := He.free_ok X G (cd.fact 50 (f := .free "enumerate") rfl)
  have z_any := He.free_ok X G (cd.fact 51 (f := .free "any") rfl)
  have z_repr := He.free_ok X G (cd.fact 52 (f := .free "repr") rfl)
  obtain ⟨fdP, FP⟩ := cd.def_ 35 (d := hd35) rfl
  have gP := He.glo_ok X G (cd.fact 53 (f := .glo "part") rfl)
  have kP := FP.kp
  have bP : Binds K fdP ["over", "under"] [] := by
    obtain ⟨ds, r, b⟩ := FunD.binds1 (ps := ["over", "under"]) FP 2 1 (by intro z; cases z) rfl (fun T kV doc pm an cdv ct us its hu hi => match us, its, hu, hi with | [_, _], [_], _, _ => ⟨_, rfl, rfl⟩)
    cases r
    exact b
  obtain ⟨dsP, vP1, bP1⟩ := FunD.binds1 (ps := ["over", "under"]) FP 1 0 (by intro z; cases z) rfl (fun T kV doc pm an cdv ct us its hu hi => match us, its, hu, hi with | [_], [_], _, _ => ⟨_, rfl, rfl⟩)
  have nO : KBn K fd24 ["rows", "rates", "purses"] 1 ["purses", "rates"] kOh kOh := by
    obtain ⟨oc, od, kV, doc, pm, an, cdv, ct, osl, rfl, lk, hcd⟩ := F24.ex
    refine ⟨fun s us ws Y l1 l2 => ?_, kOh_rel⟩
    match us, ws, l1, l2 with
    | [a0], [w0, w1], _, _ => exact .of_eq rfl
  have B : Bi mg := ⟨z_isinstance, z_list, z_tuple, z_len, z_all, z_range, z_bool, z_int, z_str, z_abs⟩
  have J : Bj mg := ⟨z_min, z_max, z_sum, z_zip, z_sorted⟩
  have Z : Bz mg := ⟨z_any, z_enumerate⟩
  have e := hfa'.symm.trans g35
  cases e
  have bL : ∀ (s : Shared) (v : Value), BindsTo s fd35 ⟨[v], []⟩ [("_law_script", v)] := by
    obtain ⟨oc, od, kV, doc, pm, an, cdv, ct, osl, rfl, lk, hcd⟩ := F35.ex
    exact fun s v => .of_eq rfl
  refine ⟨spLaw K, fun a base _ _ => ?_, fun H a ns hl hS => ⟨a, ns, rfl, hS, hl, fun _ => rfl⟩⟩
  exact ok_law (k := 11) (n := 7) F35 ⟨rfl, by decide, by decide⟩ bL B J z_repr ⟨ok_deal (k := 10) F2 B.lst, k2, b2, g2⟩
    ⟨ok_any (k := 10) F16 (ok_pick (k := 9) F3 B.len) k3 b3 g3 (ok_of (k := 8) F4 F3 b3 g3 B) k4 b4 g4 (ok_names (k := 9) F6 (ok_pick (k := 8) F3 B.len) k3 b3 g3 (ok_of (k := 7) F4 F3 b3 g3 B) k4 b4 g4 B) k6 b6 g6 (ok_shuf (k := 9) F7 (ok_pick (k := 8) F3 B.len) k3 b3 g3 B) k7 b7 g7 (ok_dev (k := 9) F15 (ok_pick (k := 8) F3 B.len) k3 b3 g3 (ok_rule (k := 8) F8 (ok_pick (k := 7) F3 B.len) k3 b3 g3 (ok_of (k := 6) F4 F3 b3 g3 B) k4 b4 g4 B J) k8 b8 g8 (ok_raw (k := 8) F13 (ok_weight (k := 7) F11 J) k11 b11 g11 (ok_down (k := 7) F9 J) k9 b9 g9 (ok_gain (k := 7) F12 (ok_times (k := 6) F10 J) k10 b10 g10 B J) k12 b12 g12 B J) k13 b13 g13 (ok_ren (k := 8) F14 (ok_shuf (k := 7) F7 (ok_pick (k := 6) F3 B.len) k3 b3 g3 B) k7 b7 g7 B) k14 b14 g14 B J) k15 b15 g15, k16, b16, g16⟩
    ⟨ok_like F5 b5 g5 B 10, k5, b5, g5⟩
    ⟨ok_lrt (k := 10) F31 B ⟨ok_lrd (k := 9) F30 B J ⟨ok_wk (k := 8) F27 B J, k27, b27, g27⟩ ⟨ok_laf (k := 8) F29 B ⟨ok_wk (k := 7) F27 B J, k27, b27, g27⟩, k29, b29, g29⟩, k30, b30, g30⟩ ⟨ok_low (k := 9) F25 B, k25, b25, g25⟩, k31, b31, g31⟩
    ⟨ok_op (k := 10) F32 B ⟨ok_lrt (k := 9) F31 B ⟨ok_lrd (k := 8) F30 B J ⟨ok_wk (k := 7) F27 B J, k27, b27, g27⟩ ⟨ok_laf (k := 7) F29 B ⟨ok_wk (k := 6) F27 B J, k27, b27, g27⟩, k29, b29, g29⟩, k30, b30, g30⟩ ⟨ok_low (k := 8) F25 B, k25, b25, g25⟩, k31, b31, g31⟩ ⟨ok_sum (k := 9) F26 (ok_low (k := 8) F25 B) k25 b25 g25, k26, b26, g26⟩ ⟨ok_lrc (k := 9) F17 B, k17, b17, g17⟩, k32, b32, g32⟩
    ⟨ok_pick (k := 10) F3 B.len, k3, b3, g3⟩
    ⟨ok_sum (k := 10) F26 (ok_low (k := 9) F25 B) k25 b25 g25, k26, b26, g26⟩
    ⟨ok_of (k := 9) F4 F3 b3 g3 B, k4, b4, g4⟩
    ⟨ok_br (k := 10) F33 B ⟨ok_pick (k := 9) F3 B.len, k3, b3, g3⟩ ⟨ok_of (k := 8) F4 F3 b3 g3 B, k4, b4, g4⟩, k33, b33, g33⟩
    ⟨ok_ho (k := 10) F34 B J Z ⟨ok_sum (k := 9) F26 (ok_low (k := 8) F25 B) k25 b25 g25, k26, b26, g26⟩ ⟨ok_hd (k := 9) F28 (ok_wk2 (k := 8) F27 B J) k27 b27 g27 B, k28, b28, g28⟩, k34, b34, g34⟩
    ⟨ok_oh (k := 10) F24 B J Z ⟨ok_sh (k := 9) F20 B ⟨ok_lp (k := 8) F1 B, k1, b1, g1⟩, k20, b20, g20⟩ ⟨ok_am (k := 9) F21 B J Z, k21, b21, g21⟩ ⟨ok_uh (k := 9) F22 B, k22, b22, g22⟩ ⟨ok_se (k := 9) F23 B J ⟨ok_less (k := 8) F19 (ok_part (k := 6) FP F18 b18 g18 B.abs) kP bP gP, k19, b19, g19⟩ ⟨ok_part (k := 7) FP F18 b18 g18 B.abs, kP, bP, gP⟩ bP1 vP1, k23, b23, g23⟩, k24, b24, g24⟩ nO
end Hl

set_option Elab.async false
set_option linter.all false
set_option maxRecDepth 100000
open PySem PySem.W PySem.Calls PyProof.Rows
set_option maxHeartbeats 0 in
theorem PySem.Challenge.cw_heedless_k12_whole_purses_judged_holds : PySem.Challenge.rw_heedless_k12_whole_purses_judged.Holds := by
  w_on; o_law
  refine HandSHeadRun.head_any (r := OpenLaw.row PySem.Challenge.rw_heedless_k12_whole_purses_judged) (q := view (OpenLaw.row PySem.Challenge.rw_heedless_k12_whole_purses_judged).prog [42]) (H := Hl.hk) (ob := Hl.hob) (M := 20000) (loose := Hl.hloose) (d := HandSHeadRun.topDef (OpenLaw.row PySem.Challenge.rw_heedless_k12_whole_purses_judged).prog 42) (kwd := []) Hl.hob_eq
    (by kernel_rfl) (fun s => by kernel_rfl) Hl.hrun (by kernel_rfl) (by kernel_rfl) (by kernel_rfl) (by rfl) (by first | assumption | decide +kernel) (by decide +kernel) ⟨rfl, rfl, rfl, rfl, rfl, by decide +kernel⟩ ?hw ?hc
  case hw => w_witness2
  case hc =>
    refine Hl.walk_topE (l := PySem.Challenge.rw_heedless_k12_whole_purses_judged) (n := 63) rfl (by decide) (by kernel_rfl) ?F
    intro w mg fa h Y G hmg0
    obtain ⟨K, KX, c⟩ := Y
    have hmg : mg ("law" : PySem.Str) = some (.ref fa) := by
      have e : (HandSHeadRun.topDef (OpenLaw.row PySem.Challenge.rw_heedless_k12_whole_purses_judged).prog 42).name = ("law" : PySem.Str) := by kernel_rfl
      rw [← e]
      exact hmg0
    exact ⟨K, KX, Hl.all_x KX G hmg c⟩

