import PyProof.Rows.All
import Wide.All
import OpenK.AllK
import Wide.FinOn
import HandS.Wide
import HandS.Exc
import HandS.ExcOwn
import HandS.TryMany
import HandS.ExcField
import HandS.ExcIs
import HandS.Lambda
import HandS.More
import HandS.Words
import HandS.ExcInit
import HandS.ClsMeth
import KE.KExcInit
import HandS.FStr
import HandS.EndTab
import KE.KNest
import HandS.Head2
import HandS.HeadHook4
import HandS.HeadWalk
import HandS.Defaults
import HandS.Set
import HandS.SetBool
import HandS.SetTxt0
import HandS.Comp
import HandS.Dict
import KE.KDictPairs
import PySem.Challenge.RW_heedless_k18_sent_by_rules
import HandS.ForMost
import HandS.EndBits
import HandS.IsInst
import HandS.Evl
import HandS.Style
import HandS.Deep
import HandS.Conv
import HandS.Zip
import HandS.MakeKw
import KE.GoesMore
import KE.GoesZip
import HandS.WordsExc
set_option Elab.async false
set_option linter.all false
set_option maxRecDepth 100000
set_option maxHeartbeats 4000000
namespace Hw
open PySem PySem.Spec PyProof.Rows L2
/-! a tuple of classes, any number of them -/
section
variable {M : Model} {A : Around} {E : Value → Shared → Prop} {s : Shared}
theorem each_passes {f : Value → PUnit → Sem (ForInStep PUnit)} : ∀ {cs : List Value} {Q : PUnit → Shared → Prop}, (∀ c ∈ cs, ∀ R : ForInStep PUnit → Shared → Prop, R (.yield ⟨⟩) s → wpAny M A (f c ⟨⟩) R E s) → Q ⟨⟩ s → wpAny M A (forIn cs PUnit.unit f) Q E s
  | [], Q, _, q => by
    rw [List.forIn_nil]
    exact wpAny_pure q
  | c :: cs, Q, h, q => by
    rw [List.forIn_cons]
    exact wpAny_bind (h c List.mem_cons_self _ (each_passes (fun d hd => h d (List.mem_cons_of_mem _ hd)) q))
theorem one_found {f : Value → Option Bool × Unit → Sem (ForInStep (Option Bool × Unit))} : ∀ {cs : List Value} {bs : List Bool} {Q : Option Bool × Unit → Shared → Prop},
    Paired (fun c b => ∀ (r : Option Bool × Unit) (R : ForInStep (Option Bool × Unit) → Shared → Prop), R (if b = true then .done (some true, ()) else .yield (none, ())) s → wpAny M A (f c r) R E s) cs bs →
    Q (if bs.any id = true then some true else none, ()) s → wpAny M A (forIn cs (none, ()) f) Q E s
  | _, _, Q, .nil, q => by
    rw [List.forIn_nil]
    exact wpAny_pure q
  | _, _, Q, .cons (b := b) h r, q => by
    rw [List.forIn_cons]
    refine wpAny_bind (h _ _ ?_)
    cases b with
    | true => exact wpAny_pure q
    | false => exact one_found r q
end
theorem exmAny_all {K : PySem.W.Frag} {cls : Value} : ∀ {cs : List Value} {b : Bool}, PySem.W.exmAny K cls cs = some b → ∃ bs : List Bool, Paired (fun c b => PySem.W.exmOne K cls c = some b) cs bs ∧ b = bs.any id
  | [], b, h => ⟨[], .nil, (Option.some.inj h).symm⟩
  | c :: cs, b, h => by
    obtain ⟨b1, d1, h1, h2, rfl⟩ := PySem.W.exmAny_cons h
    obtain ⟨bs, p, rfl⟩ := exmAny_all h2
    exact ⟨b1 :: bs, .cons h1 p, rfl⟩
theorem paired_imp {α β : Type} {R S : α → β → Prop} (h : ∀ x y, R x y → S x y) : ∀ {xs : List α} {ys : List β}, Paired R xs ys → Paired S xs ys
  | _, _, .nil => .nil
  | _, _, .cons a b => .cons (h _ _ a) (paired_imp h b)
theorem paired_left {α β : Type} {R : α → β → Prop} {S : α → Prop} (h : ∀ x y, R x y → S x) : ∀ {xs : List α} {ys : List β}, Paired R xs ys → ∀ x ∈ xs, S x
  | _, _, .nil, _, hx => by cases hx
  | _, _, .cons a b, x, hx => by
    rcases List.mem_cons.mp hx with e | e
    · subst e
      exact h _ _ a
    · exact paired_left h b x e
theorem exm_tup {M : Model} {K : PySem.W.Frag} {cs : List Value} {cls : Value} {tp e : Addr} {b : Bool} {h : Heap} (X : K.In h) (LT : PySem.W.Looks M h (typeOf (.ref e)) cls) (hp : h.get? tp = some { cls := .type "tuple", data := .seq cs.toArray }) (hx : PySem.W.exmAny K cls cs = some b) :
    PySem.W.Looks M h (excMatches (.ref e) (.ref tp)) b := by
  intro A Q E s k q
  have tu : PySem.W.Looks M h (isInstance (.ref tp) (.type "tuple")) true := ((PySem.W.Looks.ld hp).andThen .now).andThen (PySem.W.Looks.of_pure isSubtype_tuple_tuple)
  obtain ⟨bs, p, rfl⟩ := exmAny_all hx
  unfold excMatches
  refine wpAny_bind ((tu.keeps k).here ?_)
  dsimp only
  rw [if_pos rfl]
  first
    | refine wpAny_bind (wpAny_seqItems (k _ _ hp) rfl ?_)
    | refine wpAny_bind (wpAny_bind (wpAny_seqItems (k _ _ hp) rfl (wpAny_pure ?_)))
  dsimp only [Option.getD_some, Option.getD]
  refine wpAny_bind (wpAny_pure ?_)
  refine wpAny_bind (each_passes (paired_left (S := fun c => ∀ R : ForInStep PUnit → Shared → Prop, R (.yield ⟨⟩) s → wpAny M A (do
      let __do_lift ← isExcClass c
      if (!__do_lift) = true then do
          rule "try.except-non-exception-class"
          raiseErrorWords "TypeError" "catching classes that do not inherit from BaseException is not allowed"
          pure (ForInStep.yield PUnit.unit)
        else pure (ForInStep.yield PUnit.unit)) R E s) (fun c b hc R r => ?_) p) ?_)
  · refine wpAny_bind (((PySem.W.exm_cls (M := M) X hc).1.keeps k).here ?_)
    rw [if_neg (by decide)]
    exact wpAny_pure r
  refine wpAny_bind ((LT.keeps k).here ?_)
  refine wpAny_bind (one_found (paired_imp (fun c b hc r R q' => ?_) p) ?_)
  · refine wpAny_bind (((PySem.W.exm_cls (M := M) X hc).2.keeps k).here ?_)
    cases b with
    | true => exact wpAny_pure q'
    | false => exact wpAny_pure q'
  cases hb : bs.any id with
  | true =>
    rw [hb] at q
    exact wpAny_pure q
  | false =>
    rw [hb] at q
    exact wpAny_pure q
end Hw

set_option Elab.async false
set_option linter.all false
set_option maxRecDepth 100000
set_option maxHeartbeats 4000000
namespace Hw
open PySem PySem.Spec PyProof.Rows L2
abbrev St := L2.St
/-! a clause's test: a name, or several names in a tuple -/
inductive NmsL (X : Cx) : List Expr → List Value → Prop
  | nil : NmsL X [] []
  | cons {x : Str} {p : Pos} {c : Value} {es : List Expr} {cs : List Value} : Names X x c → NmsL X es cs → NmsL X (.Name x p :: es) (c :: cs)
inductive Tst (X : Cx) : Expr → List Value → Prop
  | one {x : Str} {p : Pos} {c : Value} : Names X x c → Tst X (.Name x p) [c]
  | many {es : List Expr} {k : Nat} {pos : Pos} {cs : List Value} : NmsL X es cs → cs.length ≤ 1000 → Tst X (.Tuple es k pos) cs
section
variable {X : Cx} {a : Addr} {pn pins : List (Addr × Obj)} {σ : St} {H : Hp} {s : Shared}
theorem name_run {x : Str} {p : Pos} {c : Value} {Q E : Value → Shared → Prop} (S : Inv (X.suite a pn) pins σ H s) (n : Names X x c) (q : Q c s) : wpAny (model X.prog X.w) (X.A.mark (some (.ref a))) (eval (.Name x p) X.env) Q E s := by
  obtain ⟨g, d, m | ⟨m, v, nn⟩⟩ := n
  · exact ld_glob (X := X.suite a pn) S g m q d
  · exact ld_blt (X := X.suite a pn) S g m v q nn d
theorem names_run {E : Value → Shared → Prop} {pos : Pos} (S : Inv (X.suite a pn) pins σ H s) : ∀ {es : List Expr} {cs : List Value} {Q : List Value → Shared → Prop}, NmsL X es cs → Q cs s → wpAny (model X.prog X.w) (X.A.mark (some (.ref a))) (spliced (backTo pos (starEach es X.env))) Q E s
  | _, _, Q, .nil, q => wpAny_items_nil q
  | _, _, Q, .cons n r, q => wpAny_items_cons (name_run S n (names_run S r q))
theorem tst_run {t : Expr} {cs : List Value} {cls : Value} {b : Bool} {Q : Bool → Shared → Prop} {E E' : Value → Shared → Prop} (S : Inv (X.suite a pn) pins σ H s) (ts : Tst X t cs) (LT : PySem.W.Looks (model X.prog X.w) s.heap (typeOf (.ref a)) cls) (hx : PySem.W.exmAny X.K cls cs = some b)
    (q : ∀ h', (∀ b o, s.heap.get? b = some o → h'.get? b = some o) → Q b { s with heap := h' }) :
    wpAny (model X.prog X.w) (X.A.mark (some (.ref a))) (eval t X.env) (fun c s₁ => wpAny (model X.prog X.w) (X.A.mark (some (.ref a))) (excMatches (.ref a) c) Q E s₁) E' s := by
  cases ts with
  | one n =>
    obtain ⟨b1, d1, h1, h2, rfl⟩ := PySem.W.exmAny_cons hx
    cases (Option.some.inj h2 : false = d1)
    refine name_run S n ((PySem.W.exm_one (M := model X.prog X.w) S.kIn LT h1).here ?_)
    have := q s.heap fun _ _ e => e
    rw [Bool.or_false] at this
    exact this
  | many n small =>
    refine wpAny_Tuple (names_run S n ⟨Nat.le_of_lt (small1000 small), ?_⟩)
    have kp : ∀ b o, s.heap.get? b = some o → (s.heap.push { cls := .type "tuple", data := .seq cs.toArray }).get? b = some o := fun _ _ e => Heap.get?_push_of_some _ e
    exact (exm_tup (M := model X.prog X.w) (S.kIn.keeps kp) (LT.keeps kp) (Heap.get?_push_size s.heap rfl) hx).here (q _ kp)
end
theorem flying_on {B h h' : Heap} {l : List Env} {e : Addr} {Z : Obj → Prop} (f : HandSPX.FlyingZ B l e Z h) (k : ∀ b o, h.get? b = some o → h'.get? b = some o) : HandSPX.FlyingZ B l e Z h' := by
  obtain ⟨f1, f2, f3, oe, vs, T, oT, ts, he, hz, hd, h1, h2, h3, hT, hdT, hf⟩ := f
  exact ⟨fun b o q => k b o (f1 b o q), f2, f3.of_keeps fun b o q _ => ⟨o, k b o q, rfl⟩, oe, vs, T, oT, ts, k _ _ he, hz, hd, h1, h2, h3, k _ _ hT, hdT, hf⟩
/-! try: body / except (A, B) as n: .. / except C as n: .. -/
abbrev Suit := Addr → Value → Option Addr → TS
/-- the ends of a suite: the name goes -/
def outN (i : Nat) (D : Ends) : Ends := { nx := fun σ' H' => D.nx (σ'.set i none) H', rt := D.rt, bk := fun σ' H' => D.bk (σ'.set i none) H', ct := fun σ' H' => D.ct (σ'.set i none) H' }
def wWhy (K : PySem.W.Frag) (i : Nat) (Wout : WX) (D : Ends) : List (List Value × Suit) → WX
  | [] => Wout
  | (cs, ts) :: r => fun cls d σ H => ∃ b, PySem.W.exmAny K cls cs = some b ∧ (b = true → ∀ a, H a = none → ts a cls d (outN i D) (σ.set i (some (.ref a))) H) ∧ (b = false → wWhy K i Wout D r cls d σ H)
inductive HdsW (X : Cx) (n : Str) : List ExceptHandler → List (List Value × Suit) → Prop
  | nil : HdsW X n [] []
  | cons {t : Expr} {cs : List Value} {ts : Suit} {b₀ : Stmt} {suite : List Stmt} {pos' : Pos} {hds : List ExceptHandler} {l : List (List Value × Suit)} (ht : Tst X t cs)
      (hsu : ∀ (a : Addr) (oe : Obj) (cls : Value) (d : Option Addr) (pn : List (Addr × Obj)), Zc cls d oe → (∃ vs, oe.data = .fields vs) → PSs (X.suite a ((a, oe) :: pn)) (b₀ :: suite) (ts a cls d)) (r : HdsW X n hds l) :
      HdsW X n (.ExceptHandler (some t) (some n) (b₀ :: suite) pos' :: hds) ((cs, ts) :: l)
section
variable {X : Cx} {n : Str} {i : Nat} {body : List Stmt} {h₀ : ExceptHandler} {hds : List ExceptHandler} {l : List (List Value × Suit)} {pos : Pos} {tb : WX → TS} {Wout : WX}
/-- the clauses, one after another, the exception a having landed -/
theorem clauses (hs : X.stack = X.env :: X.outer) (hf : X.env.frame = some X.env.locals) (hN : X.N.Nodup) (hi : X.N[i]? = some n) (hln : X.env.kindOf n = some .local) (tk : Takes X Wout) (ok : X.Ok) {pins : List (Addr × Obj)} {σ : St} {H : Hp} {D : Ends} {a : Addr} {cls : Value} {d : Option Addr} {B : Heap} {sI s' : Shared}
    (J : Inv X pins σ H sI) (nb : ∀ b o, sI.heap.get? b = some o → b ∉ frs X.stack → B.get? b = some o) (na : H a = none) (os : s'.os = sI.os) (ag : AllBare s'.gens) :
    ∀ {hds : List ExceptHandler} {l : List (List Value × Suit)}, HdsW X n hds l → wWhy X.K i Wout D l cls d σ H → ∀ h : Heap, HandSPX.FlyingZ B (X.env :: X.outer) a (Zc cls d) h → sI.heap.UpToSlots h →
      wpAny (model X.prog X.w) X.A (handleBy (.ref a) X.env hds) (SP X pins D) X.xe { s' with heap := h } := by
  have apart : ∀ {h : Heap}, HandSPX.FlyingZ B (X.env :: X.outer) a (Zc cls d) h → a ≠ X.env.locals ∧ a ∉ X.fs := fun {h} fl => by
    obtain ⟨oe, vs, he, _, hd⟩ := fl.there
    have no : a ∉ frs (X.env :: X.outer) := fun hm => by
      obtain ⟨_, o', e', hnf⟩ := fl.2.2.1.mem hm
      rw [he] at e'
      cases e'
      exact hnf _ hd
    refine ⟨fun z => no (List.mem_filterMap.mpr ⟨X.env, List.mem_cons_self, by rw [hf, z]⟩), fun hm => ?_⟩
    obtain ⟨e, he', q⟩ := List.mem_filterMap.mp hm
    exact no (List.mem_filterMap.mpr ⟨e, List.mem_cons_of_mem _ he', q⟩)
  intro hds l hk
  induction hk with
  | nil =>
    intro w h fl up
    refine wpAny_handleBy_nil ?_
    obtain ⟨k1, k2, k3, oe, vs, T, oT, ts', he, hz, hd, h1, hr⟩ := id fl
    unfold PySem.passOn
    refine wpAny_bind (wpAny_field he hd h1 ?_)
    rw [if_neg (show ¬ ((Value.ref T == Value.none) = true) from by simp)]
    have fin : wpAny (model X.prog X.w) X.A (setFlight (.ref a) X.env.frame) (fun _ s4 => wpAny (model X.prog X.w) X.A (throw (.ref a) : Sem Flow) (SP X pins D) X.xe s4) X.xe { s' with heap := h } := by
      rw [hf]
      refine HandSPX.setFlight_upZ fl fun h4 hh4 up4 => wpAny_throw (tk _ _ ?_)
      exact ⟨a, B, sI, pins, σ, H, cls, d, rfl, J, nb, up.trans up4, .inr (.inr (by rw [hs]; exact hh4)), na, os, ag, w⟩
    first
      | exact wpAny_bind (wpAny_pure (wpAny_bind fin))
      | exact wpAny_bind fin
  | @cons t cs ts b₀ suite pos' hds2 l2 ht hsu r ih =>
    intro w h fl up
    obtain ⟨b, hb1, hyes, hno⟩ := w
    obtain ⟨nL, nF⟩ := apart fl
    have J3 : Inv X pins σ H { s' with heap := h } := J.landed nb fl.1 up os ag
    obtain ⟨oe3, vs3, he3, hz3, hd3⟩ := fl.there
    have S3 := J3.suite he3 hd3 na nL nF
    have LT : PySem.W.Looks (model X.prog X.w) h (typeOf (.ref a)) cls := fun A Q E s k q => wpAny_typeOf_ref (k _ _ he3) (by rw [hz3.1]; exact q)
    refine wpAny_handleBy_cons (codeAny_handlers_test (tst_run S3 ht LT hb1 fun h2 k2 => ?_)) (by intro q; cases q)
    have fl2 := flying_on fl k2
    have up2 := up.trans (Heap.UpToSlots.of_keeps k2)
    cases b with
    | false => exact ih (hno rfl) h2 fl2 up2
    | true =>
      refine codeAny_handlers_suite_as ?_
      refine HandSPX.lands_againZ fl2 fun h4 fl4 up4 => ?_
      have J4 : Inv X pins σ H { s' with heap := h4 } := J.landed nb fl4.1 (up2.trans up4) os ag
      obtain ⟨oe4, vs4, he4, hz4, hd4⟩ := fl4.there
      have S4 := J4.suite he4 hd4 na nL nF
      refine store_ok (X := X.suite a ((a, oe4) :: (X.pn ++ pins))) (v := .ref a) S4 hN hi (.inl hln) rfl (fun s5 S5 => ?_) (.inr hln)
      refine wpAny_mono ((hsu a oe4 cls d (X.pn ++ pins) hz4 ⟨_, hd4⟩).run [] s5 _ H _ S5 (hyes rfl a na)) (fun f s6 got => ?_) (fun _ _ z => False.elim z)
      have gone : ∀ {σ6 : St} {H6 : Hp} {Q : Shared → Prop}, Inv (X.suite a ((a, oe4) :: (X.pn ++ pins))) [] σ6 H6 s6 → (∀ s7, Inv X pins (σ6.set i none) H6 s7 → Q s7) →
          wpAny (model X.prog X.w) X.A (do bindName X.env n .none; unbindBehindTheSuite X.env n pos') (fun _ s7 => Q s7) X.xe s6 := fun {σ6 H6 Q} S6 hq => gone_ok (S6.unsuite ok) hN hi hln hq
      match f, got with
      | .next, ⟨σ6, H6, S6, q6⟩ => exact gone S6 fun s7 J7 => ⟨_, _, J7, q6⟩
      | .brk, ⟨σ6, H6, S6, q6⟩ => exact gone S6 fun s7 J7 => ⟨_, _, J7, q6⟩
      | .cont, ⟨σ6, H6, S6, q6⟩ => exact gone S6 fun s7 J7 => ⟨_, _, J7, q6⟩
      | .ret u, ⟨v6, σ6, H6, S6, r6, q6⟩ => exact gone S6 fun s7 J7 => ⟨_, _, _, J7, r6, q6⟩
theorem ps_try_why (hs : X.stack = X.env :: X.outer) (hf : X.env.frame = some X.env.locals) (hN : X.N.Nodup) (hi : X.N[i]? = some n) (hln : X.env.kindOf n = some .local) (tk : Takes X Wout)
    (hb : ∀ (W : WX) (pn : List (Addr × Obj)) (xe : Value → Shared → Prop), Takes (X.tr pn xe) W → PassesOwn (model X.prog X.w) X.A X.env xe → PSs (X.tr pn xe) body (tb W))
    (hh : HdsW X n (h₀ :: hds) l) : PS X (.Try body (h₀ :: hds) [] [] pos) (fun D σ H => tb (wWhy X.K i Wout D l) D σ H) := by
  refine ⟨fun pins s σ H D I h => ?_⟩
  have ok := I.ok
  have hfr : X.A.frames = some (X.env :: X.outer) := by rw [ok.frames, hs]
  refine wpAny_Try_except (wpAny_mono ((hb (wWhy X.K i Wout D l) (X.pn ++ pins) (fun e s₁ => wpAny (model X.prog X.w) X.A (noteFrame e X.env) (fun _ s₂ => wpAny (model X.prog X.w) X.A (setFlight e none) (fun _ s₃ =>
    wpAny (model X.prog X.w) X.A (handleBy e X.env (h₀ :: hds)) (SP X pins D) X.xe s₃) X.xe s₂) X.xe s₁) (fun u s' out => ?_) PassesOwn.looking).run [] s σ H D (I.toTry _) h) (fun f s1 got => ?_) (fun e s1 he => he))
  · obtain ⟨a, B, sI, pins', σ', H', cls, d, rfl, J', nb, up, sky, na, os, ag, w⟩ := out
    show wpAny (model X.prog X.w) X.A (noteFrame (.ref a) X.env) _ _ _
    refine Sky.land Zc.steady hfr hf (by rw [← hs]; exact sky) fun h3 fl3 up3 => ?_
    exact clauses hs hf hN hi hln tk ok (J'.ofTry ok) nb na os ag hh w h3 fl3 (up.trans up3)
  · match f, got with
    | .next, ⟨σ', H', J', q⟩ => exact wpAny_execs_nil ⟨σ', H', J'.ofTry ok, q⟩
    | .brk, ⟨σ', H', J', q⟩ => exact ⟨σ', H', J'.ofTry ok, q⟩
    | .cont, ⟨σ', H', J', q⟩ => exact ⟨σ', H', J'.ofTry ok, q⟩
    | .ret u, ⟨v, σ', H', J', r, q⟩ => exact ⟨v, σ', H', J'.ofTry ok, r, q⟩
end
end Hw

set_option Elab.async false
set_option linter.all false
set_option maxRecDepth 100000
set_option maxHeartbeats 4000000
namespace Hw
open PySem PySem.Spec PyProof.Rows L2
/-- e.f in a suite, e the caught exception's name: the class is told by the reading -/
def tXa (K : PySem.W.Frag) (a : Addr) (cls : Value) (d : Option Addr) (f : Str) (i : Nat) : TE := fun σ H Q => σ[i]? = some (some (.ref a)) ∧ ∃ C, cls = .ref C ∧ XfC K C ∧ PySem.W.findIn K (.ref C) f = some none ∧
  ∃ (dd : Addr) (fs : List (Str × V)) (v : V), d = some dd ∧ H dd = some (.xd fs) ∧ fs.lookup f = some v ∧ Q v H
theorem pe_xa {X : Cx} {a : Addr} {oe : Obj} {cls : Value} {d : Option Addr} {pn : List (Addr × Obj)} {pos p : Pos} {n f : Str} {i : Nat} (hz : Zc cls d oe) (hf : ∃ vs, oe.data = .fields vs) (hN : X.N[i]? = some n) (hv : Vis X.env.scope n)
    (hd : (n == ("__debug__" : Str)) = false := by decide) (hcd : (n == ("__classdict__" : Str)) = false := by decide) (hb : attributeBase (.Name n p) f X.env (eval (.Name n p) X.env) = eval (.Name n p) X.env := by rfl) :
    PE (X.suite a ((a, oe) :: pn)) (.Attribute (.Name n p) f pos) (tXa X.K a cls d f i) := by
  refine ⟨fun pins s σ H Q I h => ?_⟩
  obtain ⟨hs, C, ec, T, no, dd, fs, v, ed, hx, l, q⟩ := h
  exact (pe_xf (X := X) T no hz hf (pe_var (X := X.suite a ((a, oe) :: pn)) (pos := p) (i := i) hN hv hd hcd) hb).run pins s σ H Q I ⟨.ref a, hs, rfl, ec, dd, fs, v, ed, hx, l, q⟩
end Hw

set_option Elab.async false
set_option linter.all false
set_option maxRecDepth 100000
set_option maxHeartbeats 4000000
namespace Hw
open PySem PySem.Spec PyProof.Rows L2
/-! own errors over any built-in class of errors whose stores go the plain way -/
structure Bse (B nw ini : String) (tl : List Value) : Prop where
  fct : ExcBaseFacts B nw ini tl
  pas : ∀ self, refuseLoop self "__setattr__" tl = pure ()
  obj : tl.contains (.type "object") = true
  typ : typeOf (.type B) = pure (.type "type")
abbrev tlV : List Value := [.type "ValueError", .type "Exception", .type "BaseException", .type "object"]
abbrev tlL : List Value := [.type "LookupError", .type "Exception", .type "BaseException", .type "object"]
theorem bseV : Bse "ValueError" "ValueError.__new__" "ValueError.__init__" tlV := ⟨PySem.F.excBase_ValueError, PySem.F.store_ValueError.passes, by decide +kernel, by kernel_rfl⟩
theorem bseL : Bse "LookupError" "LookupError.__new__" "LookupError.__init__" tlL := ⟨PySem.F.excBase_LookupError, PySem.F.store_LookupError.passes, by decide +kernel, by kernel_rfl⟩
/-- own classes ahead of the built-in ones -/
def mroT (cs : List Addr) (tl : List Value) : List Value := cs.map Value.ref ++ tl
theorem mro_pass {tl : List Value} {self : Value} (h : refuseLoop self "__setattr__" tl = pure ()) : ∀ cs : List Addr, refuseLoop self "__setattr__" (mroT cs tl) = pure ()
  | [] => h
  | c :: cs => by
    show refuseLoop self "__setattr__" (.ref c :: mroT cs tl) = _
    rw [refuseLoop_ref]
    exact mro_pass h cs
theorem mro_has {tl : List Value} (x : String) : ∀ cs : List Addr, (mroT cs tl).contains (.type x) = tl.contains (.type x)
  | [] => rfl
  | c :: cs => by
    show (Value.ref c :: mroT cs tl).contains (.type x) = _
    rw [List.contains_cons, mro_has x cs]
    rfl
/-- what the written part says of an own class of errors -/
structure Own (K : PySem.W.Frag) (nw : String) (tl : List Value) (C : Addr) : Prop where
  cls : ∃ nm q N bs cs sn sub ab col dd k0 k1 k2 k3 k5, K.lookup C = some (excClassObj nm q C N bs (mroT cs tl) true sn sub ab col dd k0 k1 k2 k3 k5 nw)
  sa : PySem.W.findIn K (.ref C) "__setattr__" = some (some (.builtin "object.__setattr__"))
  exC : PySem.W.subIn K (.ref C) (.type "BaseException") = some true
  tyC : PySem.W.typeIn K (.ref C) = some (.type "type")
  kC : PySem.W.keepIn K (.ref C) = true
theorem Own.data {K : PySem.W.Frag} {nw : String} {tl : List Value} {C : Addr} (T : Own K nw tl C) : ∃ (cd : ClassData) (cs : List Addr), PySem.W.clsIn K C = some cd ∧ cd.mro = mroT cs tl ∧ cd.hasDict = true := by
  obtain ⟨nm, q, N, bs, cs, sn, sub, ab, col, dd, k0, k1, k2, k3, k5, hC⟩ := T.cls
  refine ⟨{ name := nm, bases := bs, mro := .ref C :: mroT cs tl, ns := N, qualname := q, hasDict := true, slotNames := sn, subclasses := sub, abstract := ab, collection := col, hasDel := false }, C :: cs, ?_, rfl, rfl⟩
  unfold PySem.W.clsIn
  rw [hC] <;> rfl
section
open Builtin Builtin.ObjectAttr
variable {prog : Program} {w : World} {A : Around} {R : Result → Shared → Prop} {hp : Heap} {g : Array GenState} {d : Drawn} {t : Nat} {os : OsState}
/-- a store into such an error: into its dict, or into one that is laid for it -/
theorem put_field {K : PySem.W.Frag} {B nw ini : String} {tl : List Value} {name : Str} {tk : Tok} {v : Value} {x C : Addr} {fv : Array Value} {cd : ClassData} {cs : List Addr} {dc : Option Addr} {od : Option Obj}
    (b : Bse B nw ini tl) (X : K.In hp) (I : PySem.W.InstAt hp x { cls := .ref C, dict := dc, data := .fields fv } C od) (hcd : PySem.W.clsIn K C = some cd) (hm : cd.mro = mroT cs tl) (hh : cd.hasDict = true) (ha : PySem.W.findIn K (.ref C) name = some none)
    (q : (dc = none ∧ ∀ h' tk' dx, (∀ b o, b ≠ x → hp.get? b = some o → h'.get? b = some o) → hp.objs.size ≤ dx → dx ≠ x → h'.get? x = some { cls := .ref C, dict := some dx, data := .fields fv } →
          h'.Ns1 dx (fun y => if y = name then some v else none) → R (.ok (.ret .none)) ⟨h', g, d, tk', os⟩) ∨
        (∃ (dx : Addr) (m0 : Str → Option Value) (nl : List Str), dc = some dx ∧ hp.Ns1 dx m0 ∧ Within m0 nl ∧ nl.length ≤ 1000 ∧
          ∀ h' tk', (∀ b o, b ≠ dx → hp.get? b = some o → h'.get? b = some o) → h'.Ns1 dx (fun y => if y = name then some v else m0 y) → R (.ok (.ret .none)) ⟨h', g, d, tk', os⟩)) :
    codeAny (model prog w) A (.call (.builtin "object.__setattr__") ⟨[.ref x, .str name tk, v], []⟩) R ⟨hp, g, d, t, os⟩ := by
  have full : cd.mro.isEmpty = false := by
    have o : cd.mro.contains (.type "object") = true := by rw [hm, mro_has, b.obj]
    cases e : cd.mro with
    | nil => rw [e] at o; exact absurd o (by decide)
    | cons _ _ => rfl
  have hob : cd.mro.contains (.type "object") = true := by rw [hm, mro_has, b.obj]
  have SF := PySem.F.store_object
  have sub : PySem.W.Looks (model prog w) hp (isInstance (.ref x) (.type "object")) true := by
    refine I.type.andThen (PySem.W.looks_mroIn X ?_)
    unfold PySem.W.mroIn
    rw [hcd, Option.bind_some, if_neg (by rw [full]; decide), hob]
  refine codeAny_call_builtin SF.slot.plain SF.entry ?_
  refine @PySem.W.check_slot (model prog w) _ _ ⟨hp, g, d, t, os⟩ "object.__setattr__" "object" "__setattr__" (.ref x) [.str name tk, v] [] _ SF.kind SF.split sub (SF.args (.ref x) (.str name tk) v) ?_
  have mr : PySem.W.Looks (model prog w) hp (mroOf (.ref C)) cd.mro := (PySem.W.looks_clsIn X hcd).andThen .now
  have cl : PySem.W.Looks (model prog w) hp (classData C) cd := PySem.W.looks_clsIn X hcd
  have tn : PySem.W.Looks (model prog w) hp (storeTaker? none) none := .now
  rw [PySem.W.osa_eq, refuse_eq]
  refine wpAny_bind (wpAny_bind (I.type.at (wpAny_bind (mr.at ?_))))
  rw [hm, mro_pass (b.pas _)]
  refine wpAny_pure (wpAny_bind (I.type.at ?_))
  refine wpAny_bind ((PySem.W.looks_findIn X ha).at ?_)
  refine wpAny_bind (tn.at ?_)
  show wpAny _ _ (storeInOwnDict (.ref x) (.ref C) (.str name tk) name v false) _ _ _
  obtain ⟨nm, bs, mro, ns, qn, hd, sn, sb, ab, col, del⟩ := cd
  dsimp only at hh
  subst hh
  have hx := I.at_
  unfold storeInOwnDict ownDictForStores
  rcases q with ⟨rfl, q⟩ | ⟨dx, m0, nl, rfl, hn, hw, hz, q⟩
  · have hxs : x ≠ hp.objs.size := Nat.ne_of_lt (Heap.lt_size hx)
    repeat (first | with_reducible refine PySem.HandSPX.store_in_new ?_ ?_ | with_reducible refine wpAny_loadPart_at hx ?_ | with_reducible refine cl.at ?_ | wp_step)
    · exact ⟨_, #[], _, (Heap.get?_update_ne _ _ _ _ hxs.symm).trans (Heap.get?_push_at rfl rfl), rfl, fun e he => absurd he (by simp), fun _ => rfl⟩
    · intro h' tk' hn' hs
      have hx1 := Heap.get?_push_of_some { cls := .type "dict", data := .dict #[] } hx
      refine q h' tk' hp.objs.size (fun c o hc ho => ?_) (Nat.le_refl _) hxs.symm ((hs.2 x hxs).trans (Heap.get?_update_self _ hx1 rfl)) hn'
      rw [hs.2 c (Nat.ne_of_lt (Heap.lt_size ho)), Heap.get?_update_ne _ _ _ _ hc]
      exact Heap.get?_push_of_some _ ho
  · repeat (first | with_reducible refine PySem.OEX.store_in_old hn hw hz ?_ | with_reducible refine wpAny_loadPart_at hx ?_ | with_reducible refine cl.at ?_ | wp_step)
    intro h' tk' hn' hs
    exact q h' tk' (fun c o hc ho => by rw [hs.2 c hc]; exact ho) hn'
end
section
variable {X : Cx} {pins : List (Addr × Obj)} {σ : L2.St} {H : Hp} {s : Shared} {a C dx : Addr} {f : Str} {y : V} {u : Value} {fs : List (Str × V)} {B nw ini : String} {tl : List Value}
/-- the dict that the first store lays -/
theorem laid_dict {h' : Heap} {t' : Nat} {mA : Str → Option Value} (I : Inv X pins σ H s) (e : H a = some (exo a C none)) (keep : ∀ b o, b ≠ a → s.heap.get? b = some o → h'.get? b = some o) (dn : s.heap.objs.size ≤ dx) (dne : dx ≠ a)
    {t1 : Addr} (hx : h'.get? a = some ({ cls := .ref C, dict := some dx, data := .fields #[.ref t1, .none, .none, .none, .bool false, .none] } : Obj)) (hn : h'.Ns1 dx mA) (r : ∀ g, RelO (fs.lookup g) (mA g)) :
    H dx = none ∧ Inv X pins σ (upd (upd H dx (exd dx fs)) a (exo a C (some dx))) { s with heap := h', toks := t' } := by
  have free : H dx = none := I.hok.fresh dn
  obtain ⟨hp, gs, dr, tk, os⟩ := s
  have off : ∀ {b : Addr} {o : Obj}, hp.get? b = some o → b ≠ dx := fun {b o} z => Nat.ne_of_lt (Nat.lt_of_lt_of_le (Heap.lt_size z) dn)
  have nota : ∀ {b : Addr}, H b = none → b ≠ a := fun {b} n z => by
    rw [z, e] at n
    cases n
  have stays : ∀ {b : Addr} {o : HO}, H b = some o → exo a C none ≠ o → upd (upd H dx (exd dx fs)) a (exo a C (some dx)) b = some o := fun {b o} z n => by
    rw [upd_ne (at_ne e z n), upd_ne (ne_of_none z free)]
    exact z
  refine ⟨free, I.un (t' := t') (h' := h') ?_ ?_⟩
  · refine { keep := fun b o z n _ _ => keep b o (nota n) z, slot := fun b o z n _ _ => ⟨o.slots, keep b o (nota n) z⟩, free := ?_, there := ?_, tups := fun b xs z => stays z exo_tup, frzs := fun b o v z => stays z exo_frz, tbls := fun b ps z => ⟨#[], ?_⟩ }
    · intro b o z n _
      rw [upd_ne (nota n), upd_ne (off z)]
      exact n
    · intro b o z _
      by_cases hb : b = a
      · subst hb
        exact ⟨_, hx⟩
      · exact ⟨o, keep b o hb z⟩
    · rw [stays z exo_tbl]
      simp
  · intro b o z
    by_cases hb : b = a
    · subst hb
      rw [upd_same] at z
      cases z
      exact exo_ok hx
    rw [upd_ne hb] at z
    by_cases hd : b = dx
    · subst hd
      rw [upd_same] at z
      cases z
      exact exd_ok hn r
    rw [upd_ne hd] at z
    refine (I.hok b o z).stay (fun c v hc w => keep c v ?_ w) (fun c hc => stays hc exo_own) (fun c xs hc => stays hc exo_tup)
    rcases hc with hc | hc
    · rw [hc]
      exact hb
    · exact at_ne e hc exo_own
variable {Q : Unit → Shared → Prop} {E : Value → Shared → Prop} {A : Around}
theorem store_first (b : Bse B nw ini tl) (T : Own X.K nw tl C) (I : Inv X pins σ H s) (e : H a = some (exo a C none)) (no : PySem.W.findIn X.K (.ref C) f = some none) (ry : RelV y u)
    (h : ∀ dx s', H dx = none → dx ≠ a → Inv X pins σ (upd (upd H dx (exd dx [(f, y)])) a (exo a C (some dx))) s' → Q () s') : wpAny (model X.prog X.w) A (setAttr (.ref a) f u) Q E s := by
  obtain ⟨cd, cs, hcd, hm, hh⟩ := T.data
  obtain ⟨t1, ho⟩ := exo_at I.hok e
  have I0 := I
  obtain ⟨hp, gs, dr, tk, os⟩ := s
  have J : PySem.W.InstAt hp a ({ cls := .ref C, dict := none, data := .fields #[.ref t1, .none, .none, .none, .bool false, .none] } : Obj) C none := ⟨ho, rfl, rfl, trivial⟩
  refine PySem.W.set_plain I.kIn J T.sa (put_field b I.kIn J hcd hm hh no (.inl ⟨rfl, fun h' tk' dx k dn dne hx hn => ?_⟩))
  obtain ⟨fr, K'⟩ := laid_dict (t' := tk') (fs := [(f, y)]) I0 e k dn dne hx hn (relO_put (fs := []) ry fun g => True.intro)
  exact h dx _ fr dne K'
theorem store_more (b : Bse B nw ini tl) (T : Own X.K nw tl C) (I : Inv X pins σ H s) (e : H a = some (exo a C (some dx))) (ed : H dx = some (exd dx fs)) (hl : fs.length ≤ 900) (no : PySem.W.findIn X.K (.ref C) f = some none) (ry : RelV y u)
    (h : ∀ s', Inv X pins σ (upd H dx (exd dx ((f, y) :: fs))) s' → Q () s') : wpAny (model X.prog X.w) A (setAttr (.ref a) f u) Q E s := by
  obtain ⟨cd, cs, hcd, hm, hh⟩ := T.data
  obtain ⟨t1, ho⟩ := exo_at I.hok e
  obtain ⟨mA, hns, rel⟩ := exd_at I.hok ed
  have hw := within_of rel
  have I0 := I
  obtain ⟨hp, gs, dr, tk, os⟩ := s
  obtain ⟨oD, _, _, hoD, _, _⟩ := hns.count hw
  have J : PySem.W.InstAt hp a ({ cls := .ref C, dict := some dx, data := .fields #[.ref t1, .none, .none, .none, .bool false, .none] } : Obj) C (some oD) := ⟨ho, rfl, rfl, hoD⟩
  refine PySem.W.set_plain I.kIn J T.sa (put_field b I.kIn J hcd hm hh no (.inr ⟨dx, mA, _, rfl, hns, hw, by rw [List.length_map]; omega, fun h' tk' k hn => ?_⟩))
  have there : ∃ o, h'.get? dx = some o := let ⟨o, _, _, e', _⟩ := hn; ⟨o, e'⟩
  exact h _ (I0.write (t' := tk') (x := dx) (e := dx) (o := exd dx ((f, y) :: fs)) (by rw [ed]; exact True.intro) (.inl rfl) k there (exd_ok hn (relO_put ry rel)))
/-- the built-in class's __init__: nothing of it is told -/
theorem base_init {us : List Value} {Q : Value → Shared → Prop} (b : Bse B nw ini tl) (T : Own X.K nw tl C) (I : Inv X pins σ H s) (e : H a = some (exo a C none)) (hl : us.length ≤ sizeLine) (h : ∀ s', Inv X pins σ H s' → Q .none s') :
    wpAny (model X.prog X.w) A (call (.builtin ini) (.ref a :: us)) Q E s := by
  obtain ⟨nm, q, N, bs, cs, sn, sub, ab, col, dd, k0, k1, k2, k3, k5, hC⟩ := T.cls
  obtain ⟨t1, ho⟩ := exo_at I.hok e
  obtain ⟨hp, gs, dr, tk, os⟩ := s
  refine wpAny_call (PySem.HandSPX.init_base b.fct (fun Y => mro_has Y cs) (I.kIn _ _ hC) ho hl fun h' t2 k hx => ?_)
  have J := I.write (t' := tk) (x := a) (e := a) (o := exo a C none) (by rw [e]; exact True.intro) (.inl rfl) k ⟨_, hx⟩ (exo_ok hx)
  have same : upd H a (exo a C none) = H := funext fun c => by
    by_cases hc : c = a
    · rw [hc, upd_same, e]
    · rw [upd_ne hc]
  rw [same] at J
  exact h _ J
end
/-! readings -/
def tBi (K : PySem.W.Frag) (nw : String) (tl : List Value) (ta : TA) : TE := fun σ H Q => ta σ H fun vs H1 => ∃ (a C : Addr) (ws : List V), vs = .ref a :: ws ∧ ws.length ≤ 1000 ∧ Own K nw tl C ∧ H1 a = some (exo a C none) ∧ Q .non H1
def tSt (K : PySem.W.Frag) (nw : String) (tl : List Value) (f : Str) (to te : TE) : TS := fun D σ H => te σ H fun y H1 => to σ H1 fun x H2 => ∃ a C : Addr, x = .ref a ∧ Own K nw tl C ∧ PySem.W.findIn K (.ref C) f = some none ∧
  ((H2 a = some (exo a C none) ∧ ∀ dx, H2 dx = none → dx ≠ a → D.nx σ (upd (upd H2 dx (exd dx [(f, y)])) a (exo a C (some dx)))) ∨
    ∃ (dx : Addr) (fs : List (Str × V)), H2 a = some (exo a C (some dx)) ∧ H2 dx = some (exd dx fs) ∧ fs.length ≤ 900 ∧ D.nx σ (upd H2 dx (exd dx ((f, y) :: fs))))
section
variable {X : Cx} {o e : Expr} {es : List Expr} {to te : TE} {ta : TA} {f : Str} {p p' p1 p2 pos : Pos} {B nw ini : String} {tl : List Value}
/-- B.__init__(self, ..), B the built-in class -/
theorem pe_binit {x : Str} {pl : Sem Bool} (b : Bse B nw ini tl) (hx : bootBuiltins x = some (.type B)) (hg : Gl X x) (hm : X.mg x = none) (vB : PySem.W.findCls X.K (.type B) (.type "type") "__init__" = some (.val (.builtin ini))) (ha : PA X (e :: es) ta)
    (hn : x ≠ "__name__" := by decide) (hd : (x == ("__debug__" : Str)) = false := by decide) (st : Manifest.isStub B = false := by decide +kernel) (hh : PySem.W.handedIn (.builtin ini) = true := by decide +kernel)
    (hc : eval (.Call (.Attribute (.Name x p1) "__init__" p2) (e :: es) [] pos) X.env = (do
      let cls ← eval (.Name x p1) X.env
      standAt p2.atName
      let (f, first) ← holding [cls] (getMethod cls "__init__" pl)
      callWith pos f first (backTo pos (starEach (e :: es) X.env)) (backToKw pos (keywordEach [] X.env))) := by rfl)
    (he : starEach (e :: es) X.env = (false, eval e X.env) :: starEach es X.env := by rfl) (hpl : (backTo pos (starEach es X.env)).any (·.1) = false := by rfl) :
    PE X (.Call (.Attribute (.Name x p1) "__init__" p2) (e :: es) [] pos) (tBi X.K nw tl ta) := by
  refine ⟨fun pins s σ H Q I h => ?_⟩
  obtain ⟨m, fr⟩ := I.fr
  refine PySem.W.methodCall_KW (ld_blt I hg hm hx (PySem.W.method_type fr I.ok.mod.kin b.typ st vB hh ?_) hn hd) hc
  show wpAny _ _ (callWith pos (Value.builtin ini) [] (backTo pos (starEach (e :: es) X.env)) []) _ _ _
  refine PyProof.Rows.callWith_method1 (thn (ha.run pos pins _ σ H _ (I.tok _) h) ?_) he hpl
  rintro us s1 ⟨vs, H1, I1, r1, a, C, ws, rfl, hl, T, ea, q⟩
  match r1 with
  | .cons (b := u0) (l₂ := ur) ra rw' =>
    cases (show u0 = Value.ref a from ra)
    exact base_init b T I1 ea (by rw [← Paired.length rw', sizeLine_eq]; omega) fun s' J => ⟨.non, H1, J, rfl, q⟩
/-- self.f = e -/
theorem ps_st (b : Bse B nw ini tl) (ho : PE X o to) (he : PE X e te) (hs : swapsWith e (some (.Attribute o f p')) pos.line X.env = pure false := by rfl) : PS X (.Assign [.Attribute o f p'] e pos) (tSt X.K nw tl f to te) := by
  refine ⟨fun pins s σ H D I h => plainObj_wpAny_Assign_Attribute (thn (he.run pins s σ H _ I h) ?_) hs⟩
  rintro v s1 ⟨y, H1, I1, r1, q1⟩
  refine thn (ho.run pins s1 σ H1 _ I1 q1) ?_
  rintro u s2 ⟨x, H2, I2, r2, a, C, rfl, T, no, q⟩
  cases (show u = Value.ref a from r2)
  rcases q with ⟨ea, q⟩ | ⟨dx, fs, ea, ed, hl, q⟩
  · exact store_first b T I2 ea no r1 fun dx s' n ne J => ⟨σ, _, J, q dx n ne⟩
  · exact store_more b T I2 ea ed hl no r1 fun s' J => ⟨σ, _, J, q⟩
section
variable {CX : CXT} {x : Str} {C fI : Addr} {k : Nat} {fd : FuncData} {ps : List Str} {sp : Sp}
/-- the made error, its __init__ having run -/
theorem made_run {pins : List (Addr × Obj)} {σ : L2.St} {H1 : Hp} {Q : XK} {s1 : Shared} {us : List Value} {vs : List V} (b : Bse B nw ini tl) (T : Own X.K nw tl C) (iC : PySem.W.findIn X.K (.ref C) "__init__" = some (some (.ref fI))) (tI : PySem.W.typeIn X.K (.ref fI) = some (.type "function"))
    (G : FnOk X.prog X.w X.K X.mg X.base CX k fI fd ps sp) (hr : Room (k + 1) X.A) (hb : Binds X.K fd ps []) (hx : Passes CX X (fun _ _ _ => False)) (I1 : Inv X pins σ H1 s1) (r1 : Vals vs us) (hz : vs.length ≤ 1000)
    (q1 : ∀ a, H1 a = none → sp (.ref a :: vs) (upd H1 a (exo a C none)) (fun v H2 => v = .non ∧ ∃ (d : Addr) (fs : List (Str × V)), H2 a = some (exo a C (some d)) ∧ H2 d = some (exd d fs) ∧ H1 d = none ∧ Q (.ref C) (some d) (upd (del H2 a) d (.xd fs))) (fun _ _ _ => False)) :
    wpAny (model X.prog X.w) X.A (call (.ref C) us) (MkP X pins σ Q) X.xe s1 := by
  obtain ⟨nm, q, N, bs, cs, sn, sub, ab, col, dd, k0, k1, k2, k3, k5, hC⟩ := T.cls
  obtain ⟨hp, gs, dr, tk, os⟩ := s1
  have hsz : hp.objs.size ≤ hp.objs.size + 1 := Nat.le_succ _
  have want := q1 (hp.objs.size + 1) (I1.hok.fresh hsz)
  generalize hh2 : (hp.push (PySem.W.kdv_tup us)).push (PySem.HandSPX.excO C hp.objs.size) = h2
  have kk : ∀ c o, hp.get? c = some o → h2.get? c = some o := fun c o e => by
    rw [← hh2]
    exact Heap.get?_push_of_some _ (Heap.get?_push_of_some _ e)
  have there : h2.get? (hp.objs.size + 1) = some (PySem.HandSPX.excO C hp.objs.size) := by
    rw [← hh2]
    heap_get
  have I2 : Inv X pins σ (upd H1 (hp.objs.size + 1) (exo (hp.objs.size + 1) C none)) ⟨h2, gs, dr, tk, os⟩ := I1.laid (t' := tk) (h' := h2) kk hsz (exo_ok there)
  have r2 : Vals (V.ref (hp.objs.size + 1) :: vs) (Value.ref (hp.objs.size + 1) :: us) := .cons rfl r1
  have hl : (Value.ref (hp.objs.size + 1) :: us).length = ps.length := (Paired.length r2).symm.trans (G.len _ _ _ _ want)
  have few : us.length ≤ sizeLine := by rw [← Paired.length r1, sizeLine_eq]; omega
  refine wpAny_call (PySem.HandSPX.call_own b.fct (fun Y => mro_has Y cs) (I1.kIn _ _ hC) (PySem.W.looks_findIn I1.kIn iC) (fun self => PySem.W.bind_fn I1.kIn self tI) few ?_)
  rw [hh2]
  have bt := hb ⟨h2, gs, dr, tk, os⟩ (Value.ref (hp.objs.size + 1) :: us) I2.kIn (by rw [List.append_nil]; exact hl)
  rw [List.append_nil] at bt
  refine codeAny_mono (G.run _ X.stack _ _ ⟨Value.ref (hp.objs.size + 1) :: us, []⟩ _ _ _ (fun _ _ _ => False) (hr.make C us []) (I2.env0.make C us []) bt r2 want) fun r s' got => ?_
  match r, got with
  | .error er, got => exact hx pins σ _ _ er s' I2 got
  | .ok (.ret u), got =>
    obtain ⟨v, H2, os2, bare2, un2, hok2, rv, ev, d, fs, ea, ed, hd1, q2⟩ := got
    subst ev
    obtain ⟨hh, g2, d2, t2, os'⟩ := s'
    exact ⟨rv, mk_end (raises_own T.exC T.tyC) I1 hsz kk un2 hok2 os2 bare2 ea ed hd1 q2⟩
  | .ok .next, got => exact False.elim got
  | .ok .brk, got => exact False.elim got
  | .ok .cont, got => exact False.elim got
/-- C(e, ..) -/
theorem pmk_err (b : Bse B nw ini tl) (T : Own X.K nw tl C) (iC : PySem.W.findIn X.K (.ref C) "__init__" = some (some (.ref fI))) (tI : PySem.W.typeIn X.K (.ref fI) = some (.type "function"))
    (G : FnOk X.prog X.w X.K X.mg X.base CX k fI fd ps sp) (hr : Room (k + 1) X.A) (hb : Binds X.K fd ps []) (hx : Passes CX X (fun _ _ _ => False)) (hg : Gl X x) (hm : X.mg x = some (.ref C)) (ha : PA X (e :: es) ta)
    (hd : (x == ("__debug__" : Str)) = false := by decide) (he : starEach (e :: es) X.env = (false, eval e X.env) :: starEach es X.env := by rfl) (hpl : (backTo pos (starEach es X.env)).any (·.1) = false := by rfl) :
    PMk X (.Call (.Name x p) (e :: es) [] pos) (tMkO C sp [] ta) := by
  intro pins s σ H Q I h
  refine wpAny_Call_Name_kw (ld_glob I hg hm ?_ hd)
  refine PySem.W.callWith_K (h₀ := X.base) I.ok.mod.kin T.kC (thn (ha.run pos pins s σ H _ I h) ?_) he hpl
  rintro us s1 ⟨vs, H1, I1, r1, hz, q1⟩
  refine ⟨I1.kIn, ?_⟩
  show wpAny _ _ (call (.ref C) us) _ _ _
  refine made_run b T iC tI G hr hb hx I1 r1 hz fun a na => ?_
  have := q1 a na
  rw [List.append_nil] at this
  exact this
/-- C() -/
theorem pmk_err0 (b : Bse B nw ini tl) (T : Own X.K nw tl C) (iC : PySem.W.findIn X.K (.ref C) "__init__" = some (some (.ref fI))) (tI : PySem.W.typeIn X.K (.ref fI) = some (.type "function"))
    (G : FnOk X.prog X.w X.K X.mg X.base CX k fI fd ps sp) (hr : Room (k + 1) X.A) (hb : Binds X.K fd ps []) (hx : Passes CX X (fun _ _ _ => False)) (hg : Gl X x) (hm : X.mg x = some (.ref C)) (hd : (x == ("__debug__" : Str)) = false := by decide) :
    PMk X (.Call (.Name x p) [] [] pos) (tMkO C sp [] tNil) := by
  intro pins s σ H Q I h
  obtain ⟨_, q1⟩ := h
  refine wpAny_Call_Name_kw (ld_glob I hg hm ?_ hd)
  refine PySem.W.callWith_K0 I.kIn T.kC ?_
  show wpAny _ _ (call (.ref C) []) _ _ _
  exact made_run b T iC tI G hr hb hx I .nil (Nat.zero_le _) q1
end
end
end Hw

set_option Elab.async false
set_option linter.all false
set_option maxRecDepth 100000
set_option maxHeartbeats 4000000
namespace Hw
open PySem PySem.Spec PyProof.Rows L2
/-! C.m(e, ..): a def of a class, called off the class -/
section
variable {X : Cx} {CX : CXT} {k : Nat} {f C : Addr} {fd : FuncData} {ps : List Str} {sp : Sp} {dvs : List V} {ds : List Value} {E : XK} {x m : Str} {p1 p2 pos : Pos} {e : Expr} {es : List Expr} {t : TA} {mc : Value} {pl : Sem Bool}
theorem pe_callC (r : ClX.CRead X.K C mc) (c : ClX.CVal X.K C mc m (.ref f) (.ref f)) (F : FnOk X.prog X.w X.K X.mg X.base CX k f fd ps sp) (hr : Room k X.A)
    (hg : Gl X x) (hm : X.mg x = some (.ref C)) (hk : PySem.W.keepIn X.K (.ref f) = true) (hb : Binds X.K fd ps ds) (hd : Vals dvs ds) (hx : Passes CX X E) (ha : PA X (e :: es) t)
    (hdb : (x == ("__debug__" : Str)) = false := by decide)
    (he : starEach (e :: es) X.env = (false, eval e X.env) :: starEach es X.env := by rfl) (hpl : (backTo pos (starEach es X.env)).any (·.1) = false := by rfl)
    (ht : eval (.Call (.Attribute (.Name x p1) m p2) (e :: es) [] pos) X.env = (do
      let cls ← eval (.Name x p1) X.env
      standAt p2.atName
      let (f, first) ← holding [cls] (getMethod cls m pl)
      callWith pos f first (backTo pos (starEach (e :: es) X.env)) (backToKw pos (keywordEach [] X.env))) := by rfl) :
    PE X (.Call (.Attribute (.Name x p1) m p2) (e :: es) [] pos) (tCall sp dvs E t) := by
  constructor
  intro pins s σ H Q I h
  refine PySem.W.methodCall_KW (pl := pl) (ld_glob I hg hm ?_ hdb) ht
  refine PySem.W.method_cls I.kIn r.ga (ClX.getcval_ok I r c fun s' J => ?_)
  refine PySem.W.callWith_K (h₀ := X.base) (first := []) J.ok.mod.kin hk (thn (ha.run pos pins s' σ H _ J h) ?_) he hpl
  rintro us s1 ⟨vs, H1, I1, rv, q⟩
  exact ⟨I1.kIn, run_fn F hr hb hd hx I1 rv q⟩
end
/-! what the __init__ of an error leaves -/
/-- v, told as a text -/
inductive ArgT : V → Str → Prop
  | str (y : Str) (h : (reprText y).length ≤ 200) : ArgT (.str y) (reprText y)
  | int (i : Int) (h : i.natAbs < 2 ^ 100) : ArgT (.int i) (toString i)
theorem ArgT.len {v : V} {y : Str} (h : ArgT v y) : y.length ≤ 200 := by
  cases h with
  | str y h => exact h
  | int i h =>
    have lg : i.natAbs.log2 < 100 := by
      by_cases z : i.natAbs = 0
      · rw [z]; decide
      · exact (Nat.log2_lt z).mpr h
    have : (Str.ofString (toString i)).length ≤ 101 := by
      rw [PySem.ofString_length]
      exact int_text_length_le (by decide) lg
    exact Nat.le_trans this (by decide)
theorem ArgT.fmt {H1 : Hp} {v : V} {y : Str} {Q : VK} (h : ArgT v y) (q : Q (.str y) H1) : (∃ y : Str, v = .str y ∧ (reprText y).length ≤ sizeLine ∧ Q (.str (reprText y)) H1) ∨ ∃ i : Int, v = .int i ∧ i.natAbs.log2 < 1920 ∧ Q (.str (toString i)) H1 := by
  have l := h.len
  cases h with
  | str y h => exact .inl ⟨y, rfl, Nat.le_trans h (by decide +kernel), q⟩
  | int i h =>
    refine .inr ⟨i, rfl, ?_, q⟩
    by_cases z : i.natAbs = 0
    · rw [z]; decide
    · exact Nat.lt_trans ((Nat.log2_lt z).mpr h) (by decide)
theorem fmtR_var {i : Nat} {σ : L2.St} {H : Hp} {v : V} {y : Str} {Q : VK} (h : ArgT v y) (hs : σ[i]? = some (some v)) (q : Q (.str y) H) : tFmtR (tVar i) σ H Q := ⟨v, hs, ArgT.fmt h q⟩
def NoF (K : PySem.W.Frag) (C : Addr) (fs : List (Str × V)) : Prop := ∀ p ∈ fs, PySem.W.findIn K (.ref C) p.1 = some none
/-- of the two upper classes: word, about -/
def spBase (K : PySem.W.Frag) (nw : String) (tl : List Value) : Sp := fun vs H Q _ => ∃ (a C : Addr) (wd ab : Str), vs = [.ref a, .str wd, .str ab] ∧ wd.length + ab.length ≤ 1000 ∧ Own K nw tl C ∧ PySem.W.findIn K (.ref C) "word" = some none ∧ H a = some (exo a C none) ∧
  ∀ dx, H dx = none → dx ≠ a → Q .non (upd (upd H dx (exd dx [("word", .str wd)])) a (exo a C (some dx)))
/-- of a class below: its fields, the latest first -/
def spErr (K : PySem.W.Frag) (nw : String) (tl : List Value) (n : Nat) (fs : List V → List (Str × V)) : Sp := fun vs H Q _ => ∃ (a C : Addr) (ws : List V), vs = .ref a :: ws ∧ ws.length = n ∧ (∀ v ∈ ws, ∃ y, ArgT v y) ∧ Own K nw tl C ∧ NoF K C (fs ws) ∧ H a = some (exo a C none) ∧
  ∀ dx, H dx = none → dx ≠ a → Q .non (upd (upd H dx (exd dx (fs ws))) a (exo a C (some dx)))
theorem upd_back {H : Hp} {a dx : Addr} {x y z : HO} (n : dx ≠ a) : upd (upd (upd H dx x) a y) dx z = upd (upd H dx z) a y := by
  funext b
  by_cases h1 : b = dx
  · subst h1
    rw [upd_same, upd_ne n, upd_same]
  · rw [upd_ne h1]
    by_cases h2 : b = a
    · subst h2
      rw [upd_same, upd_same]
    · rw [upd_ne h2, upd_ne h2, upd_ne h1, upd_ne h1]
/-- C(..), as raise asks it -/
theorem err_end {K : PySem.W.Frag} {nw : String} {tl : List Value} {n : Nat} {fs : List V → List (Str × V)} {C : Addr} {ws : List V} {H : Hp} {Q : XK} (hl : ws.length = n) (few : n ≤ 1000) (ar : ∀ v ∈ ws, ∃ y, ArgT v y) (T : Own K nw tl C) (nf : NoF K C (fs ws)) (q : ∀ d, H d = none → Q (.ref C) (some d) (upd H d (.xd (fs ws)))) :
    ws.length ≤ 1000 ∧ ∀ a, H a = none → spErr K nw tl n fs (.ref a :: (ws ++ [])) (upd H a (exo a C none)) (fun v H2 => v = .non ∧ ∃ (d : Addr) (fs : List (Str × V)), H2 a = some (exo a C (some d)) ∧ H2 d = some (exd d fs) ∧ H d = none ∧ Q (.ref C) (some d) (upd (del H2 a) d (.xd fs))) (fun _ _ _ => False) := by
  refine ⟨by omega, fun a na => ⟨a, C, ws, by rw [List.append_nil], hl, ar, T, nf, upd_same, fun dx n1 n2 => ?_⟩⟩
  have nd : H dx = none := by
    rw [upd_ne n2] at n1
    exact n1
  refine ⟨rfl, dx, _, upd_same, by rw [upd_ne n2, upd_same], nd, ?_⟩
  have eh : upd (del (upd (upd (upd H a (exo a C none)) dx (exd dx (fs ws))) a (exo a C (some dx))) a) dx (.xd (fs ws)) = upd H dx (.xd (fs ws)) := by
    funext b
    by_cases h1 : b = dx
    · rw [h1, upd_same, upd_same]
    · rw [upd_ne h1, upd_ne h1]
      by_cases h2 : b = a
      · rw [h2, del_same, na]
      · rw [del_ne h2, upd_ne h2, upd_ne h1, upd_ne h2]
  rw [eh]
  exact q dx nd
/-- an error's fields, the latest first -/
def errF (x : Str) (ps : List Str) (ws : List V) : List (Str × V) := (ps.zip ws).reverse ++ [(("word" : Str), V.str x)]
theorem errF_mem {x : Str} {ps : List Str} {ws : List V} {q : Str × V} (h : q ∈ errF x ps ws) : q.1 ∈ (("word" : Str) :: ps) := by
  rcases List.mem_append.mp h with h | h
  · exact List.mem_cons_of_mem _ (List.of_mem_zip (List.mem_reverse.mp h)).1
  · cases List.mem_singleton.mp h
    exact List.mem_cons_self
/-- what is known of an error's class, its def and what it leaves -/
structure Er (P : Program) (w : World) (K : PySem.W.Frag) (mg : Str → Option Value) (base : Heap) (k : Nat) (nw : String) (tl : List Value) (x : Str) (ps : List Str) (C fI : Addr) (fd : FuncData) : Prop where
  T : Own K nw tl C
  g : mg x = some (.ref C)
  iC : PySem.W.findIn K (.ref C) "__init__" = some (some (.ref fI))
  tI : PySem.W.typeIn K (.ref fI) = some (.type "function")
  G : FnOk P w K mg base CX0 k fI fd (("self" : Str) :: ps) (spErr K nw tl ps.length (errF x ps))
  b : Binds K fd (("self" : Str) :: ps) []
  nf : ∀ f ∈ (("word" : Str) :: ps), PySem.W.findIn K (.ref C) f = some none
section
variable {X : Cx} {B nw ini : String} {tl : List Value} {x : Str} {ps : List Str} {C fI : Addr} {fd : FuncData} {k : Nat} {p pos : Pos} {e : Expr} {es : List Expr} {ta : TA}
theorem pmk_er (b : Bse B nw ini tl) (r : Er X.prog X.w X.K X.mg X.base k nw tl x ps C fI fd) (hr : Room (k + 1) X.A) (hg : Gl X x) (ha : PA X (e :: es) ta)
    (hd : (x == ("__debug__" : Str)) = false := by decide) (he : starEach (e :: es) X.env = (false, eval e X.env) :: starEach es X.env := by rfl) (hpl : (backTo pos (starEach es X.env)).any (·.1) = false := by rfl) :
    PMk X (.Call (.Name x p) (e :: es) [] pos) (tMkO C (spErr X.K nw tl ps.length (errF x ps)) [] ta) := pmk_err b r.T r.iC r.tI r.G hr r.b pass0 hg r.g ha hd he hpl
theorem pmk_er0 (b : Bse B nw ini tl) (r : Er X.prog X.w X.K X.mg X.base k nw tl x ps C fI fd) (hr : Room (k + 1) X.A) (hg : Gl X x) (hd : (x == ("__debug__" : Str)) = false := by decide) :
    PMk X (.Call (.Name x p) [] [] pos) (tMkO C (spErr X.K nw tl ps.length (errF x ps)) [] tNil) := pmk_err0 b r.T r.iC r.tI r.G hr r.b pass0 hg r.g hd
end
theorem Er.fin {P : Program} {w : World} {K : PySem.W.Frag} {mg : Str → Option Value} {base : Heap} {nw : String} {tl : List Value} {x : Str} {ps : List Str} {C fI : Addr} {fd : FuncData} {k : Nat} {ws : List V} {H : Hp} {Q : XK}
    (r : Er P w K mg base k nw tl x ps C fI fd) (hl : ws.length = ps.length) (few : ps.length ≤ 1000) (ar : ∀ v ∈ ws, ∃ y, ArgT v y) (q : ∀ d, H d = none → Q (.ref C) (some d) (upd H d (.xd (errF x ps ws)))) :
    ws.length ≤ 1000 ∧ ∀ a, H a = none → spErr K nw tl ps.length (errF x ps) (.ref a :: (ws ++ [])) (upd H a (exo a C none)) (fun v H2 => v = .non ∧ ∃ (d : Addr) (fs : List (Str × V)), H2 a = some (exo a C (some d)) ∧ H2 d = some (exd d fs) ∧ H d = none ∧ Q (.ref C) (some d) (upd (del H2 a) d (.xd fs))) (fun _ _ _ => False) :=
  err_end hl few ar r.T (fun q hq => r.nf _ (errF_mem hq)) q
end Hw

set_option Elab.async false
set_option linter.all false
set_option maxRecDepth 100000
set_option maxHeartbeats 4000000
namespace Hw
open PySem PySem.Spec PyProof.Rows L2 LamX
/-! a law whose def makes lambdas: its code object is known -/
theorem ok_at {P : Program} {w : World} {K : PySem.W.Frag} {mg : Str → Option Value} {base : Heap} {x qual : Str} {st : Stmt} {f c : Addr} {oc kV doc pm ct : Value} {od an : Option Addr} {osl : Array (Option Value)} {N ps : List Str} {k : Nat} {sp : Sp}
    (lk : K.lookup f = some ⟨oc, od, .func (PySem.W.fnOf x qual (defArgs st) (defBody st) (defScope st) .none kV doc pm an (.ref c) ct), osl⟩) (hcd : PySem.W.codeIn K (.ref c) qual = true) (S : FnScope N ps (defScope st)) (len : ∀ vs H Q E, sp vs H Q E → vs.length = ps.length)
    (body : ∀ (A : Around) (outer : List Env) (s : Shared) (H : Hp) (vs : List V) (Q : VK) (E : XK), Room k (A.deeper (envOfC qual (defScope st) s.heap.objs.size f (.ref c))) → sp vs H Q E →
      ∃ t, PSs (cxOf CX0 P w K mg base N qual (defScope st) f (.ref c) A outer s H E).nox (defBody st) t ∧ t { nx := fun _ H' => Q .non H', rt := Q } (start N vs) H) :
    FnOk P w K mg base CX0 (k + 1) f (PySem.W.fnOf x qual (defArgs st) (defBody st) (defScope st) .none kV doc pm an (.ref c) ct) ps sp :=
  fn_of lk hcd S len fun A outer s H vs Q E hr h => let ⟨t, p, q⟩ := body A outer s H vs Q E hr h; ⟨t, p.nox, q⟩
/-- the end of such a law: the tables of its code objects stand empty at the head -/
theorem walk_law {l : PySem.W.OpenLaw} {n k : Nat} {q : Program} {loose : List Str} {XP : (Str → Option Value) → Heap → Prop} {YP : World → Heap → Prop} {d : DefRec} {K : Params → PySem.W.Frag} {CX : World → CXT} {x : Str}
    (hn : l.most = some n) (hn2 : n ≤ sizeLine) (hdf : d.params.defaults = []) (hr : Room k callerA) (hY : ∀ (w : World) (h : Heap), YP w h → (K w.params).In h)
    (F : ∀ (w : World) (mg : Str → Option Value) (fa : Addr) (h : Heap), (K w.params).In h → h.Ns mainGlobals mg → mg d.name = some (.ref fa) →
      (∀ (y : Str) (e : DefRec) (c P : Addr), (recsOf q).find? (fun e => e.name == y) = some e → PySem.W.tabIn (K w.params) y = some (c, P) → PySem.W.CodeHd h c P ∧ h.get? P = some { cls := .none, data := .fields #[] }) → LawAtS l w (K w.params) (CX w) k n x mg fa h)
    (hCX : ∀ (w : World) (H : Hp) (s : Shared) (e : Value) (s' : Shared), CX w [] H s (fun _ _ _ => False) e s' → False) :
    PySem.W.WalkO q loose XP YP l.row.toRowW d [] (fun f vs => PySem.call f vs) := by
  refine Att.attach_callB hn hdf fun w s₀ s₁ mg mb fa o pm cd doc a vs ns G Y ho hd hcd hmg hobj hints hlen hbits hg => ?_
  have KX := hY w _ Y
  obtain ⟨fd, cs, sp, hT, nT, C, hb, hsp, hF⟩ := F w mg fa _ KX G.T.g hmg fun y e c P h1 h2 => PySem.W.tab_of G.T KX h1 h2
  exact law_callTs KX G.T.g G.T.b G.T.builtins G.T.nolimit hg hT nT C G.T.bmain hobj hints (Nat.le_trans hlen hn2) hr hF hb (fun H hH hS => hsp H a ns hlen hbits hH hS) fun H e s' => hCX w H s₁ e s'
/-! what a clause makes of an error -/
section
variable {K : PySem.W.Frag} {i : Nat} {W : WX} {D : Ends} {cls : Value} {d : Option Addr} {σ : L2.St} {H : Hp}
theorem why_at {cs : List Value} {ts : Suit} {l2 : List (List Value × Suit)} (h : PySem.W.exmAny K cls cs = some true) (q : ∀ a, H a = none → ts a cls d (outN i D) (σ.set i (some (.ref a))) H) : ∀ {l1 : List (List Value × Suit)}, (∀ p ∈ l1, PySem.W.exmAny K cls p.1 = some false) → wWhy K i W D (l1 ++ (cs, ts) :: l2) cls d σ H
  | [], _ => ⟨true, h, fun _ => q, fun z => nomatch z⟩
  | (c1, t1) :: l1, no => ⟨false, no _ List.mem_cons_self, fun z => (nomatch z), fun _ => why_at h q fun p hp => no p (List.mem_cons_of_mem _ hp)⟩
end
/-- the fields of a caught error, in a tuple -/
def tFs (K : PySem.W.Frag) (fs : List Str) : Suit := fun a cls d => tRet (tTup (fs.foldr (fun f t => tCons (tXa K a cls d f 1) t) tNil))
section
variable {K : PySem.W.Frag} {C dd a : Addr} {xs : List (Str × V)} {H : Hp} {σ : L2.St}
theorem fs_run (xf : XfC K C) (hd : H dd = some (.xd xs)) (hs : σ[1]? = some (some (.ref a))) : ∀ {fs : List Str} {vs : List V} {Q : List V → Hp → Prop}, Paired (fun f v => PySem.W.findIn K (.ref C) f = some none ∧ xs.lookup f = some v) fs vs → Q vs H → (fs.foldr (fun f t => tCons (tXa K a (.ref C) (some dd) f 1) t) tNil) σ H Q
  | _, _, _, .nil, q => q
  | _, _, _, .cons h r, q => ⟨hs, C, rfl, xf, h.1, dd, xs, _, rfl, hd, h.2, fs_run xf hd hs r q⟩
theorem fs_fin {fs : List Str} {vs : List V} {D : Ends} (xf : XfC K C) (hd : H dd = some (.xd xs)) (hs : σ[1]? = some (some (.ref a))) (p : Paired (fun f v => PySem.W.findIn K (.ref C) f = some none ∧ xs.lookup f = some v) fs vs) (small : vs.length ≤ 1000) (q : ∀ p, H p = none → D.rt (.ref p) (upd H p (.tup vs))) :
    tFs K fs a (.ref C) (some dd) D σ H := fs_run (Q := fun ys H1 => ys.length ≤ sizeLine ∧ ∀ p, H1 p = none → D.rt (.ref p) (upd H1 p (.tup ys))) xf hd hs p ⟨Nat.le_of_lt (small1000 small), q⟩
end
/-- heaps that differ in tables alone -/
theorem ext_same {H H' : Hp} (s : Same H H') : ExtN H H' := fun b o e _ => s b o e
end Hw

set_option Elab.async false
set_option linter.all false
set_option maxRecDepth 100000
set_option maxHeartbeats 4000000
namespace Hw
open PySem PySem.Spec PyProof.Rows L2 LamX He
/-! facts of a head, read by one look -/
theorem fun_of {K : PySem.W.Frag} {x q : Str} {st : Stmt} {f : Addr} {fd : FuncData} (F : FunD K x q (defArgs st) (defBody st) (defScope st) [] [] f fd) : Fun K x q st f fd := by
  obtain ⟨oc, od, dV, kV, doc, pm, an, cdv, ct, osl, e, lk, hc, dd, _⟩ := F.ex
  rcases dd with ⟨_, rfl⟩ | ⟨no, _⟩
  · exact ⟨⟨oc, od, kV, doc, pm, an, cdv, ct, osl, e, lk, hc⟩, F.kp⟩
  · exact absurd rfl no
/-- an own class of errors straight below U -/
def ownB (K : PySem.W.Frag) (C U : Addr) (tl : List Value) (nw : String) : Bool := match K.lookup C with
  | some ⟨.type t, _, .cls cd, sl⟩ => decide (t = "type") && (match cd.mro, sl.toList with
    | .ref c1 :: bm, [_, _, _, _, some (.builtin n), _] => decide (c1 = C) && (decide (n = nw) && (!cd.hasDel && (cd.hasDict && decide (bm = .ref U :: tl))))
    | _, _ => false)
  | _ => false
theorem ownB_ok {K : PySem.W.Frag} {C U : Addr} {tl : List Value} {nw : String} (h : ownB K C U tl nw = true) :
    ∃ nm q N bs cs sn sub ab col dd k0 k1 k2 k3 k5, K.lookup C = some (excClassObj nm q C N bs (mroT cs tl) true sn sub ab col dd k0 k1 k2 k3 k5 nw) := by
  unfold ownB at h
  split at h
  · rename_i t dd cd sl ho
    obtain ⟨h1, h2⟩ := ba h
    have e1 := of_decide_eq_true h1
    subst e1
    split at h2
    · rename_i c1 bm k0 k1 k2 k3 n k5 hm hs
      obtain ⟨z1, z⟩ := ba h2
      obtain ⟨z2, z⟩ := ba z
      obtain ⟨z3, z⟩ := ba z
      obtain ⟨z4, z5⟩ := ba z
      have e1 := of_decide_eq_true z1
      have e2 := of_decide_eq_true z2
      have e5 := of_decide_eq_true z5
      subst e1 e2 e5
      obtain ⟨nm, bs, mro, ns, qn, hd, sn, sub, ab, col, del⟩ := cd
      have z3' : del = false := by simpa using z3
      have z4' : hd = true := z4
      have hm' : mro = .ref c1 :: .ref U :: tl := hm
      subst z3' z4' hm'
      have e : sl = #[k0, k1, k2, k3, some (.builtin n), k5] := by
        obtain ⟨l⟩ := sl
        have hs' : l = [k0, k1, k2, k3, some (.builtin n), k5] := hs
        rw [hs']
      subst e
      exact ⟨nm, qn, ns, bs, [U], sn, sub, ab, col, dd, k0, k1, k2, k3, k5, ho⟩
    · cases h2
  · cases h
/-- all that is asked of a class of errors -/
def oneB (K : PySem.W.Frag) (e u : Str) (tl : List Value) (nw : String) (fs : List Str) : Bool :=
  ownB K (ga K e) (ga K u) tl nw && (eqO (PySem.W.findIn K (.ref (ga K e)) "__setattr__") (some (some (.builtin "object.__setattr__"))) && (decide (PySem.W.subIn K (.ref (ga K e)) (.type "BaseException") = some true) && (decide (PySem.W.typeIn K (.ref (ga K e)) = some (.type "type")) &&
    (PySem.W.keepIn K (.ref (ga K e)) && (eqO (PySem.W.findIn K (.ref (ga K e)) "__init__") (some (some (.ref (ma K (ga K e) "__init__")))) && (decide (PySem.W.typeIn K (.ref (ma K (ga K e) "__init__")) = some (.type "function")) &&
      (eqO (PySem.W.findIn K (.ref (ga K e)) "__getattribute__") (some (some (.builtin "BaseException.__getattribute__"))) && (eqO (PySem.W.findIn K (.ref (ga K e)) "__getattr__") (some none) && (PySem.W.hasDictIn K (ga K e) && fs.all fun f => eqO (PySem.W.findIn K (.ref (ga K e)) f) (some none))))))))))
structure OneE (K : PySem.W.Frag) (e : Str) (tl : List Value) (nw : String) (fs : List Str) : Prop where
  own : Own K nw tl (ga K e)
  iC : PySem.W.findIn K (.ref (ga K e)) "__init__" = some (some (.ref (ma K (ga K e) "__init__")))
  tI : PySem.W.typeIn K (.ref (ma K (ga K e) "__init__")) = some (.type "function")
  xf : XfC K (ga K e)
  nf : ∀ f ∈ fs, PySem.W.findIn K (.ref (ga K e)) f = some none
theorem oneB_ok {K : PySem.W.Frag} {e u : Str} {tl : List Value} {nw : String} {fs : List Str} (h : oneB K e u tl nw fs = true) : OneE K e tl nw fs := by
  obtain ⟨h1, h⟩ := ba h
  obtain ⟨h2, h⟩ := ba h
  obtain ⟨h3, h⟩ := ba h
  obtain ⟨h4, h⟩ := ba h
  obtain ⟨h5, h⟩ := ba h
  obtain ⟨h6, h⟩ := ba h
  obtain ⟨h7, h⟩ := ba h
  obtain ⟨h8, h⟩ := ba h
  obtain ⟨h9, h⟩ := ba h
  obtain ⟨h10, h11⟩ := ba h
  exact ⟨⟨ownB_ok h1, eqO_ok h2, of_decide_eq_true h3, of_decide_eq_true h4, h5⟩, eqO_ok h6, of_decide_eq_true h7, ⟨eqO_ok h8, eqO_ok h9, of_decide_eq_true h3, h10⟩, fun f hf => eqO_ok (List.all_eq_true.mp h11 f hf)⟩
/-- an upper class, its __init__ read off it; the built-in class above -/
def upB (K : PySem.W.Frag) (u : Str) (py ini : String) : Bool :=
  PySem.W.readsIn K (ga K u) (.type "type") && (eqO (PySem.W.specialIn K (.ref (ga K u)) "__getattribute__") (some (some (.builtin "type.__getattribute__"))) && ((match PySem.W.findCls K (.ref (ga K u)) (.type "type") "__init__" with
    | some (.val (.ref a)) => decide (a = ma K (ga K u) "__init__")
    | _ => false) && (match PySem.W.findCls K (.type py) (.type "type") "__init__" with
    | some (.val (.builtin i)) => decide (i = ini)
    | _ => false)))
structure UpE (K : PySem.W.Frag) (u : Str) (py ini : String) : Prop where
  r : ClX.CRead K (ga K u) (.type "type")
  c : ClX.CVal K (ga K u) (.type "type") "__init__" (.ref (ma K (ga K u) "__init__")) (.ref (ma K (ga K u) "__init__"))
  b : PySem.W.findCls K (.type py) (.type "type") "__init__" = some (.val (.builtin ini))
theorem upB_ok {K : PySem.W.Frag} {u : Str} {py ini : String} (h : upB K u py ini = true) : UpE K u py ini := by
  obtain ⟨h1, h⟩ := ba h
  obtain ⟨h2, h⟩ := ba h
  obtain ⟨h3, h4⟩ := ba h
  refine ⟨⟨h1, eqO_ok h2⟩, ⟨?_, rfl⟩, ?_⟩
  · split at h3
    · rename_i a e
      rw [e, of_decide_eq_true h3]
    · cases h3
  · split at h4
    · rename_i a e
      rw [e, of_decide_eq_true h4]
    · cases h4
def exmB (K : PySem.W.Frag) (e : Str) (l : List Str) (b : Bool) : Bool := decide (PySem.W.exmAny K (.ref (ga K e)) ((l.map (ga K)).map Value.ref) = some b)
theorem exmB_ok {K : PySem.W.Frag} {e : Str} {l : List Str} {b : Bool} (h : exmB K e l b = true) : PySem.W.exmAny K (.ref (ga K e)) ((l.map (ga K)).map Value.ref) = some b := of_decide_eq_true h
/-- the law's own def and its table -/
theorem law_tab {fa : List Fa} {fn : List DefD} {ts : List He.Tab} {tf : List Defn} {ex : PySem.W.Frag → Bool} {w : World} {h : Heap} {K : PySem.W.Frag} (X : K.In h) (c : SaysX fa fn ts tf ex w h K) {x : Str} {st : Stmt} {fd : FuncData} (F : Fun K x x st (ga K x) fd) (m : ((x, none) : Defn) ∈ tf) :
    ∃ (cL PL : Addr) (oc : Value) (od : Option Addr) (kV doc pm : Value) (an : Option Addr) (ct : Value) (osl : Array (Option Value)), K.lookup (ga K x) = some ⟨oc, od, .func (PySem.W.fnOf x x (defArgs st) (defBody st) (defScope st) .none kV doc pm an (.ref cL) ct), osl⟩ ∧ PySem.W.codeIn K (.ref cL) x = true ∧
      PySem.W.CodeHd h cL PL ∧ h.get? PL = some { cls := .none, data := .fields #[] } ∧ K.lookup PL = none := by
  obtain ⟨oc, od, kV, doc, pm, an, cdv, ct, osl, e, lk, hc⟩ := F.ex
  obtain ⟨cL, rfl⟩ := codeIn_ref hc
  subst e
  have ec : codeOf K (x, none) = cL := codeOf_eq (p := (x, none)) (c := cL) lk rfl
  have h1 := c.hd _ m
  have h2 := c.out _ m
  have h3 := c.empty _ m
  have e1 : cT K (x, none) = (cL, tabOf K cL) := by
    unfold cT
    rw [ec]
  rw [e1] at h1 h2 h3
  exact ⟨cL, tabOf K cL, oc, od, kV, doc, pm, an, ct, osl, lk, hc, PySem.W.codeHd_of_K X h1, h3, h2⟩
/-! the look: what the module's names reach, and the statics -/
def seen (n : Nat) (g : Addr → Option Obj) : PySem.W.Frag := frT g (cStatics :: asD g n)
def look (n : Nat) (fa : List Fa) (fn : List DefD) (tf : List Defn) (ex : PySem.W.Frag → Bool) (g : Addr → Option Obj) : AlX :=
  let K := seen n g
  (obsT fa fn [] K, ex K && tabsB g tf K)
theorem look_says {n : Nat} {fa : List Fa} {fn : List DefD} {tf : List Defn} {ex : PySem.W.Frag → Bool} {w : World} {h : Heap} (e : look n fa fn tf ex h.get? = valX fn [] w) : SaysX fa fn [] tf ex w h (seen n h.get?) := by
  have a : obsT fa fn [] (seen n h.get?) = valT fn [] w := congrArg Prod.fst e
  obtain ⟨b, t⟩ := ba (show (ex (seen n h.get?) && tabsB h.get? tf (seen n h.get?)) = true from congrArg Prod.snd e)
  have each : ∀ p ∈ tf, PySem.W.codeHdIn (seen n h.get?) (cT (seen n h.get?) p).1 (cT (seen n h.get?) p).2 = true ∧ h.get? (cT (seen n h.get?) p).2 = some { cls := .none, data := .fields #[] } := fun p hp => by
    obtain ⟨t1, t2⟩ := ba (List.all_eq_true.mp t p hp)
    refine ⟨t1, ?_⟩
    split at t2
    · rename_i o q
      rw [q, emptyTab_eq t2]
    · cases t2
  exact { t := a, more := b, hd := fun p hp => (each p hp).1, out := fun p hp => frT_none (each p hp).2 rfl, empty := fun p hp => (each p hp).2 }
def lookH (n : Nat) (fa : List Fa) (fn : List DefD) (tf : List Defn) (ex : PySem.W.Frag → Bool) : PySem.W.Hook where
  α := AlX
  obs := fun s => look n fa fn tf ex s.heap.get?
  val := fun w => valX fn [] w
  says := fun w h => ∃ K : PySem.W.Frag, K.In h ∧ SaysX fa fn [] tf ex w h K
  of := fun _ _ e => ⟨_, frT_in, look_says e⟩
  keeps := fun _ _ _ ⟨K, kin, c⟩ k => ⟨K, kin.keeps k, { t := c.t, more := c.more, hd := c.hd, out := c.out, empty := fun p hp => k _ _ (c.empty p hp) }⟩
theorem look_eq {n : Nat} {fa : List Fa} {fn : List DefD} {tf : List Defn} {ex : PySem.W.Frag → Bool} {g : Addr → Option Obj} {s : Shared} (h : ∀ a, g a = s.heap.get? a) : look n fa fn tf ex g = (lookH n fa fn tf ex).obs s := by
  have e : g = s.heap.get? := funext h
  subst e
  rfl
end Hw

set_option Elab.async false
set_option linter.all false
set_option maxRecDepth 100000
set_option maxHeartbeats 0
namespace Hl
open PySem PySem.Spec PyProof.Rows L2
def topS (i : Nat) : Stmt := PySem.Challenge.pw_heedless_k18_sent_by_rules.main.body.getD i (.Pass ⟨0, 0, 0, 0⟩)
open PySem PySem.Spec PyProof.Rows L2 LamX He
def hd0 : He.DefD := ⟨("added", none), "added", "added", defArgs (topS 20), defBody (topS 20), defScope (topS 20), [], []⟩
def hd1 : He.DefD := ⟨("refuse_counts", none), "refuse_counts", "refuse_counts", defArgs (topS 21), defBody (topS 21), defScope (topS 21), [], []⟩
def hd2 : He.DefD := ⟨("letters_of", none), "letters_of", "letters_of", defArgs (topS 23), defBody (topS 23), defScope (topS 23), [], []⟩
def hd3 : He.DefD := ⟨("outlets_of", none), "outlets_of", "outlets_of", defArgs (topS 24), defBody (topS 24), defScope (topS 24), [], []⟩
def hd4 : He.DefD := ⟨("weight_in", none), "weight_in", "weight_in", defArgs (topS 25), defBody (topS 25), defScope (topS 25), [], []⟩
def hd5 : He.DefD := ⟨("times_sent", none), "times_sent", "times_sent", defArgs (topS 26), defBody (topS 26), defScope (topS 26), [], []⟩
def hd6 : He.DefD := ⟨("sent_at", none), "sent_at", "sent_at", defArgs (topS 27), defBody (topS 27), defScope (topS 27), [], []⟩
def hd7 : He.DefD := ⟨("sent_by", none), "sent_by", "sent_by", defArgs (topS 28), defBody (topS 28), defScope (topS 28), [], []⟩
def hd8 : He.DefD := ⟨("_law_deal", none), "_law_deal", "_law_deal", defArgs (topS 30), defBody (topS 30), defScope (topS 30), [], []⟩
def hd9 : He.DefD := ⟨("_law_pick", none), "_law_pick", "_law_pick", defArgs (topS 31), defBody (topS 31), defScope (topS 31), [], []⟩
def hd10 : He.DefD := ⟨("_law_of", none), "_law_of", "_law_of", defArgs (topS 32), defBody (topS 32), defScope (topS 32), [], []⟩
def hd11 : He.DefD := ⟨("_law_like", none), "_law_like", "_law_like", defArgs (topS 33), defBody (topS 33), defScope (topS 33), [], []⟩
def hd12 : He.DefD := ⟨("_law_names", none), "_law_names", "_law_names", defArgs (topS 34), defBody (topS 34), defScope (topS 34), [], []⟩
def hd13 : He.DefD := ⟨("_law_times_of", none), "_law_times_of", "_law_times_of", defArgs (topS 35), defBody (topS 35), defScope (topS 35), [], []⟩
def hd14 : He.DefD := ⟨("_law_weight", none), "_law_weight", "_law_weight", defArgs (topS 36), defBody (topS 36), defScope (topS 36), [], []⟩
def hd15 : He.DefD := ⟨("_law_why", none), "_law_why", "_law_why", defArgs (topS 37), defBody (topS 37), defScope (topS 37), [], []⟩
def hd16 : He.DefD := ⟨("_law_full_rule", none), "_law_full_rule", "_law_full_rule", defArgs (topS 38), defBody (topS 38), defScope (topS 38), [], []⟩
def hd17 : He.DefD := ⟨("_law_any_rules", none), "_law_any_rules", "_law_any_rules", defArgs (topS 39), defBody (topS 39), defScope (topS 39), [], []⟩
def hd18 : He.DefD := ⟨("_law_names_of", none), "_law_names_of", "_law_names_of", defArgs (topS 40), defBody (topS 40), defScope (topS 40), [], []⟩
def hd19 : He.DefD := ⟨("_law_sent_of", none), "_law_sent_of", "_law_sent_of", defArgs (topS 41), defBody (topS 41), defScope (topS 41), [], []⟩
def hd20 : He.DefD := ⟨("law", none), "law", "law", defArgs (topS 42), defBody (topS 42), defScope (topS 42), [], []⟩
def hd21 : He.DefD := ⟨("HeedError", some "__init__"), "__init__", "HeedError.__init__", defArgs (inClass (topS 1) 0), defBody (inClass (topS 1) 0), defScope (inClass (topS 1) 0), [.str "HeedError", .str ""], []⟩
def hd22 : He.DefD := ⟨("BadCounts", some "__init__"), "__init__", "BadCounts.__init__", defArgs (inClass (topS 7) 0), defBody (inClass (topS 7) 0), defScope (inClass (topS 7) 0), [], []⟩
def hfn : List He.DefD := [hd0, hd1, hd2, hd3, hd4, hd5, hd6, hd7, hd8, hd9, hd10, hd11, hd12, hd13, hd14, hd15, hd16, hd17, hd18, hd19, hd20, hd21, hd22]
def hfa : List He.Fa := [.glo "added", .glo "refuse_counts", .glo "letters_of", .glo "outlets_of", .glo "weight_in", .glo "times_sent", .glo "sent_at", .glo "sent_by", .glo "_law_deal", .glo "_law_pick", .glo "_law_of", .glo "_law_like", .glo "_law_names", .glo "_law_times_of", .glo "_law_weight", .glo "_law_why", .glo "_law_full_rule", .glo "_law_any_rules", .glo "_law_names_of", .glo "_law_sent_of", .glo "law", .free "isinstance", .free "list", .free "tuple", .free "len", .free "all", .free "range", .free "bool", .free "int", .free "str", .free "abs", .free "min", .free "max", .free "sum", .free "zip", .free "sorted", .free "any", .free "dict", .glo "BadName", .glo "Taken", .glo "NoLetter", .glo "NoOutlet", .glo "NoMachine", .glo "NoWeb", .glo "NoRun", .glo "BadRow", .glo "BadText", .glo "BadDeed", .glo "Unreached", .glo "Gone", .glo "NoStand", .glo "Heeds", .glo "NoneWaits", .glo "HeedError", .glo "Lacking", .free "ValueError", .glo "BadCounts"]
def hex (K : PySem.W.Frag) : Bool := (Hw.upB K "HeedError" "ValueError" "ValueError.__init__" && (Hw.oneB K "BadCounts" "HeedError" Hw.tlV "ValueError.__new__" ["word"] && (Hw.exmB K "BadCounts" ["BadName", "Taken", "NoLetter", "NoOutlet", "NoMachine", "NoWeb", "NoRun"] false && (Hw.exmB K "BadCounts" ["BadRow", "BadText", "BadDeed"] false && (Hw.exmB K "BadCounts" ["Unreached", "Gone", "NoStand"] false && (Hw.exmB K "BadCounts" ["Heeds"] false && (Hw.exmB K "BadCounts" ["NoneWaits"] false && (Hw.exmB K "BadCounts" ["HeedError"] true && true))))))))
abbrev hR : PySem.W.OpenRow := PySem.W.OpenLaw.row PySem.Challenge.rw_heedless_k18_sent_by_rules
abbrev hk : PySem.W.Hook := Hw.lookH 5 hfa hfn [("law", none)] hex
def hob (s : PySem.W.SharedT) : He.AlX := Hw.look 5 hfa hfn [("law", none)] hex (HandSHeadRun.getT s)
theorem hob_eq (s : PySem.W.SharedT) : hob s = hk.obs s.abs := Hw.look_eq (HandSHeadRun.getT_eq s)
def hloose : List Str := (["HeedError", "BadName", "BadRow", "Unreached", "Heeds", "BadText", "BadCounts", "Gone", "BadDeed", "Taken", "Lacking", "NoStand", "NoLetter", "NoOutlet", "NoMachine", "NoWeb", "NoRun", "NoneWaits", "added", "refuse_counts"] : List Str) ++ (["letters_of", "outlets_of", "weight_in", "times_sent", "sent_at", "sent_by", "_law_deal", "_law_pick", "_law_of", "_law_like", "_law_names", "_law_times_of", "_law_weight", "_law_why", "_law_full_rule", "_law_any_rules", "_law_names_of", "_law_sent_of"] : List Str)
theorem hrun (w : World) : HandSHeadRun.RunEq hR (PySem.W.view hR.prog [42]) hk hob 20000 hloose w := by
  intro os
  kernel_rfl
end Hl

set_option Elab.async false
set_option linter.all false
set_option maxRecDepth 100000
set_option maxHeartbeats 4000000
/-! Sets of texts: what they hold, add, sorted. -/
namespace Stx
open PySem PySem.Spec PyProof.Rows L2 PySem.Froz

/-- a member's text -/
def txOf (e : Int × Value) : Str := match e.2 with
  | .str k _ => k
  | _ => default
theorem ris_tail {ep : Nat} {es1 : Array (Int × Value)} {t2 : SetTable} {wd : Bool} (r : Ris t2.place.toList) : Ris (tailTx ep es1 t2 wd).2.2.place.toList := by
  unfold tailTx
  split
  · exact relayAll_ris _ _ _
  · exact r
theorem led_tail {ep : Nat} {es1 : Array (Int × Value)} {t2 : SetTable} {wd : Bool} : (tailTx ep es1 t2 wd).2.2.led = t2.led := by
  unfold tailTx
  split
  · exact relayAll_led _ _ _
  · rfl
theorem perm_tail {ep : Nat} {es1 : Array (Int × Value)} {t2 : SetTable} {wd : Bool} : (tailTx ep es1 t2 wd).1.toList.Perm es1.toList := by
  unfold tailTx
  split
  · exact relayAll_perm _ _ _
  · exact List.Perm.refl _
theorem ris_add {D : SD} (h : Int) (v : Value) (r : Ris D.2.2.place.toList) : Ris (addTx h v D).2.2.place.toList := by
  unfold addTx
  refine ris_tail ?_
  split
  · exact layNew_ris _ _ _ _ r
  · exact layNew_ris _ _ _ _ r
theorem led_add {D : SD} (h : Int) (v : Value) : (addTx h v D).2.2.led = D.2.2.led := by
  unfold addTx
  rw [led_tail]
  split
  · exact layNew_led _ _ _ _
  · exact layNew_led _ _ _ _
theorem perm_add {D : SD} (h : Int) (v : Value) : (addTx h v D).1.toList.Perm ((h, v) :: D.1.toList) := by
  unfold addTx
  refine perm_tail.trans ?_
  have p := layNew_perm D.2.2 D.1 h v
  rw [Array.toList_push] at p
  exact p.trans (List.perm_append_singleton _ _)

/-- the texts l, each once, are the set at a; its table can be walked -/
def SetS (P : Program) (w : World) (h : Heap) (a : Addr) (l : List Str) : Prop :=
  ∃ D : SD, h.get? a = some (sObj "set" D) ∧ TxOk P w D l ∧ (D.1.toList.map txOf).Perm l ∧ l.Nodup ∧ l.length < scanBound ∧ Ris D.2.2.place.toList ∧ (w.params.followText "set-order" = true ∨ D.2.2.led = true)
def SetSO (P : Program) (w : World) (a : Addr) (l : List Str) : HO := .ext fun h => SetS P w h a l
/-- l with k -/
def addS (k : Str) (l : List Str) : List Str := if k ∈ l then l else k :: l
theorem addS_len (k : Str) (l : List Str) : (addS k l).length ≤ l.length + 1 := by
  unfold addS
  split
  · exact Nat.le_succ _
  · exact Nat.le_refl _
theorem mem_addS {k x : Str} {l : List Str} : x ∈ addS k l ↔ x = k ∨ x ∈ l := by
  unfold addS
  split
  · rename_i h
    exact ⟨.inr, fun z => z.elim (fun e => e ▸ h) id⟩
  · exact List.mem_cons
theorem nodup_addS {k : Str} {l : List Str} (h : l.Nodup) : (addS k l).Nodup := by
  unfold addS
  split
  · exact h
  · rename_i n
    exact List.nodup_cons.mpr ⟨n, h⟩

section
variable {P : Program} {w : World} {A : Around} {E : Value → Shared → Prop} {s : Shared} {a : Addr} {l : List Str}
theorem SetS.at {h h' : Heap} (R : SetS P w h a l) (k : ∀ o, h.get? a = some o → h'.get? a = some o) : SetS P w h' a l := by
  obtain ⟨D, ho, r⟩ := R
  exact ⟨D, k _ ho, r⟩
theorem setSO_new {H : Hp} {h : Heap} (R : SetS P w h a l) : ObjOk P w H h a (SetSO P w a l) := by
  obtain ⟨D, ho, r⟩ := id R
  exact ⟨R, ⟨_, ho⟩, fun h1 h2 p k => SetS.at p k⟩
theorem setS_fresh {h : Heap} : SetS P w (h.push { cls := .type "set", dict := none, data := .set #[] 0 (.fresh 0 0 (!w.params.followText "set-order")) }) h.objs.size [] :=
  ⟨(#[], 0, .fresh 0 0 (!w.params.followText "set-order")), Heap.get?_push_size _ rfl, .nil (by rfl), List.Perm.refl _, List.nodup_nil, by decide, List.Pairwise.nil, by
    show _ ∨ (!w.params.followText "set-order") = true
    cases w.params.followText "set-order"
    · exact .inr rfl
    · exact .inl rfl⟩

/-- a text that is there already -/
theorem again_x {T : String} {D : SD} {k : Str} {u : Tok} {Q : Bool → Shared → Prop} (ho : s.heap.get? a = some (sObj T D)) (F : TxOk P w D l) (hk : k ∈ l) (hb : l.length < scanBound) (h : Q false s) :
    wpAny (model P w) A (setAddHashed a (.str k u) (hashStr w k)) Q E s := by
  obtain ⟨es, ep, t⟩ := D
  have hd : (sObj T (es, ep, t)).data = .set es ep t := rfl
  have hsz : es.size = l.length := F.sz
  have hb0 : es.size < scanBound := by rw [hsz]; exact hb
  obtain ⟨e, he, z⟩ := (F.mem k).mp hk
  have hkey : (PySem.strKind P w).is k (.str k u) = true := is_str k u
  unfold setAddHashed setAddHashedIn
  refine wpAny_holding (wpAny_bind (wpAny_setState_of ho hd F.fit ?_))
  dsimp only
  rw [byScan_of rfl hb0 F.el]
  simp only [↓reduceIte]
  unfold setAddByScan
  refine wpAny_bind (wpAny_bind (wpAny_rule (wpAny_bind (wpAny_setScan_of (knd := PySem.strKind P w) (k := k) hkey ho hd F.fit F.el ?_))))
  cases hf : List.findIdx? (fun e => (PySem.strKind P w).is k e.2) es.toList with
  | none =>
    have c := List.findIdx?_eq_none_iff.mp hf e he
    rw [z] at c
    cases c
  | some j => exact wpAny_pure (wpAny_pure h)
theorem code_add {k : Str} {u : Tok} {Q : Value → Shared → Prop} (R : SetS P w s.heap a l) (room : l.length + 1 < scanBound)
    (hQ : ∀ h', Heap.SameBut a s.heap h' → SetS P w h' a (addS k l) → Q .none { s with heap := h', toks := s.toks + 1 }) :
    wpAny (model P w) A (call (.builtin "set.add") [.ref a, .str k u]) Q E s := by
  obtain ⟨D, ho, G, pm, nd, hb, ri, ld⟩ := R
  have hT : s.TypeIs (.ref a) "set" := ⟨_, ho, rfl⟩
  refine wpAny_call_entry F.slot_set_add hT F.entry_set_add ?_ (F.args_set_add_2 _ _)
  unfold Builtin.«set.add» Builtin.Frozenset.oneOther
  simp only [List.isEmpty_nil, bind_assoc]
  unfold Builtin.Frozenset.addrOf setAdd
  refine wpAny_bind (wpAny_pure ?_)
  try dsimp only
  refine wpAny_bind (wpAny_pure ?_)
  try dsimp only
  refine wpAny_bind (wpAny_holding (wpAny_bind ((PySem.strKind P w).pyHash (is_str k u) ?_)))
  by_cases hk : k ∈ l
  · refine again_x (s := { s with toks := s.toks + 1 }) ho G hk hb (show wpAny _ _ (ret Value.none) _ _ _ from wpAny_pure ⟨_, rfl, hQ s.heap (Heap.SameBut.refl a s.heap) ?_⟩)
    unfold addS
    rw [if_pos hk]
    exact ⟨D, ho, G, pm, nd, hb, ri, ld⟩
  · refine add_x (s := { s with toks := s.toks + 1 }) ho G hk room (show wpAny _ _ (ret Value.none) _ _ _ from wpAny_pure ⟨_, rfl, hQ _ (Heap.SameBut.update _ a _) ?_⟩)
    unfold addS
    rw [if_neg hk]
    exact ⟨_, get_upd _ ho rfl, add_ok u G, ((perm_add _ _).map txOf).trans (pm.cons k), List.nodup_cons.mpr ⟨hk, nd⟩, room, ris_add _ _ ri, ld.imp id fun z => by rw [led_add]; exact z⟩

theorem strs_of_mem : ∀ (vs : List Value), (∀ v ∈ vs, ∃ k t, v = Value.str k t) → StrsAre vs (vs.map fun v => txOf (0, v))
  | [], _ => .nil
  | v :: vs, h => by
    obtain ⟨k, t, rfl⟩ := h v List.mem_cons_self
    exact .cons k t (strs_of_mem vs fun u hu => h u (List.mem_cons_of_mem _ hu))
/-- sorted(a) -/
theorem code_sorted {Q : Value → Shared → Prop} (R : SetS P w s.heap a l) (hh : A.handled = none) (h64 : l.length < 64)
    (hQ : ∀ s' p (out : Array Value) (c : Nat) (ss : List Str), (∀ b o, s.heap.get? b = some o → s'.heap.get? b = some o) → s'.gens = s.gens → s'.os = s.os → s.heap.objs.size ≤ p →
      s'.heap.get? p = some (seqObj "list" out c) → StrsAre out.toList ss → ss.Perm l → sortedS ss = true → Q (.ref p) s') :
    wpAny (model P w) A (call (.builtin "sorted") [.ref a]) Q E s := by
  obtain ⟨⟨es, ep, t⟩, ho, F, pm, nd, hb, ri, ld⟩ := R
  have hsz : es.size = l.length := F.sz
  have hb0 : es.size < scanBound := by rw [hsz]; exact hb
  refine Calls.call_function_entry kind_sorted plain_sorted entry_sorted (args_sorted1 _) ?_
  unfold Builtin.«sorted»
  refine wpAny_bind (m := checkCount "sorted" 1 1 _) (wpAny_pure ?_)
  refine wpAny_bind (collect_set (A := A.in1) hh ⟨_, ho, rfl, rfl⟩ F.fit hb0 ri ld fun s1 vs k1 hz g1 o1 pv => ?_)
  have hv : ∀ v ∈ vs, ∃ k t, v = Value.str k t := fun v hv => by
    obtain ⟨e, he, q⟩ := List.mem_map.mp (pv.mem_iff.mp hv)
    obtain ⟨⟨k, h1, _⟩, _⟩ := F.el e he
    obtain ⟨tk, e1⟩ := Value.isStrOf_shape (x := k) (v := e.2) h1
    exact ⟨k, tk, q ▸ e1⟩
  have hS := strs_of_mem vs hv
  have pk : (vs.map fun v => txOf (0, v)).Perm l := by
    have q := pv.map fun v => txOf (0, v)
    rw [List.map_map] at q
    exact q.trans pm
  have hvl : vs.length < 64 := by
    have q := pk.length_eq
    rw [List.length_map] at q
    omega
  refine wpAny_bind (wpAny_newList ?_ (by rw [sizeLine_eq]; omega))
  have hoL : (s1.heap.push (seqObj "list" vs.toArray 0)).get? s1.heap.objs.size = some (seqObj "list" vs.toArray 0) := Heap.get?_push_size _ rfl
  refine wpAny_bind (wpAny_holding (wpAny_call_entry slot_list_sort ⟨_, hoL, rfl⟩ entry_list_sort
    (list_sort_treeK strKind_oneLt hoL hS.keysOf (fun v₁ v₂ rest e => keyKind_strs (by rw [← e]; exact hS)) hvl fun st' hp hs => ⟨_, rfl, ?_⟩) (args_list_sort _)))
  obtain ⟨ss, g2, g3, g4⟩ := sorted_out_str hS hp hs
  obtain ⟨c, hc⟩ := sortedHeap_at (vs := vs) (out := (arrOf st').map (·.2)) hoL
  refine wpAny_pure ⟨_, rfl, hQ _ s1.heap.objs.size _ c ss (fun b u e => ?_) g1 o1 hz hc g2 (g3.trans pk) g4⟩
  have q := k1 b u e
  have hlt := Heap.lt_size q
  show (sortedHeap (s1.heap.push (seqObj "list" vs.toArray 0)) s1.heap.objs.size vs _).get? b = some u
  rw [sortedHeap_old (Nat.ne_of_lt hlt) (by rw [size_push']; exact Nat.lt_succ_of_lt hlt)]
  exact Heap.get?_push_of_some _ q
end

section
variable {X : Cx} {pins : List (Addr × Obj)} {σ : L2.St} {H : Hp} {s : Shared}
theorem setSO_get {a : Addr} {l : List Str} (I : Inv X pins σ H s) (ha : H a = some (SetSO X.prog X.w a l)) : SetS X.prog X.w s.heap a l := (I.hok a _ ha).1
theorem addS_ok {E : Value → Shared → Prop} {D : Addr} {l : List Str} {k : Str} {v : Value} {Q : Value → Shared → Prop} (I : Inv X pins σ H s) (hD : H D = some (SetSO X.prog X.w D l)) (room : l.length + 1 < scanBound) (r : RelV (.str k) v)
    (h : ∀ s', Inv X pins σ (upd H D (SetSO X.prog X.w D (addS k l))) s' → Q .none s') : wpAny (model X.prog X.w) X.A (call (.builtin "set.add") [.ref D, v]) Q E s := by
  obtain ⟨u, rfl⟩ := r
  refine code_add (setSO_get I hD) room fun h' sb new => ?_
  have he : ∃ o, h'.get? D = some o := let ⟨d, ho, _⟩ := new; ⟨_, ho⟩
  exact h _ (I.write (e := D) (t' := s.toks + 1) (by rw [hD]; trivial) (.inl rfl) (fun b u hb hu => (sb.2 b hb).trans hu) he (setSO_new new))
/-- sorted(a), a a set of fewer than 64 texts -/
def rSortedTx (P : Program) (w : World) : List V → Hp → VK → Prop := fun vs H Q => ∃ (a : Addr) (l : List Str), vs = [.ref a] ∧ H a = some (SetSO P w a l) ∧ l.length < 64 ∧
  ∀ ss p, ss.Perm l → sortedS ss = true → H p = none → Q (.ref p) (upd H p (.lst (ss.map V.str)))
theorem cr_sortedTx (hc : X.calm = true) : CallR X (.builtin "sorted") (rSortedTx X.prog X.w) := by
  intro pins s σ H vs us Q I r h
  obtain ⟨a, l, rfl, ha, h64, q⟩ := h
  rw [Vals.ref1 r]
  refine code_sorted (setSO_get I ha) (I.ok.hd hc) h64 fun s' p out c ss k g o hp hg hS pm so => ?_
  have hlen : (ss.map V.str).length ≤ sizeLine := by rw [List.length_map, pm.length_eq, sizeLine_eq]; omega
  have hn : H p = none := I.hok.fresh hp
  have J : Inv X pins σ (upd H p (.lst (ss.map V.str))) { s with heap := s'.heap, gens := s'.gens, drawn := s'.drawn, toks := s'.toks } :=
    I.call (ch := []) (Un.laid k hp hn) (I.hok.laid k hp ⟨hlen, out.toList, c, vals_of_strs hS, hg⟩) (by rw [g]; exact I.bare) (fun _ z => nomatch z)
  have e : s' = { s with heap := s'.heap, gens := s'.gens, drawn := s'.drawn, toks := s'.toks } := by
    cases s'
    cases s
    cases o
    rfl
  rw [e]
  exact ⟨.ref p, _, J, rfl, q ss p pm so hn⟩
end
end Stx

set_option Elab.async false
set_option linter.all false
set_option maxRecDepth 100000
set_option maxHeartbeats 4000000
/-! Set comprehensions of texts, of as many clauses as one likes. -/
namespace Stx
open PySem PySem.Spec PyProof.Rows L2

/-- one turn of a clause: m is what a turn does behind its tests -/
def turnS (p : Pos) (t : Expr) (ifs : List Expr) (it : Value) (env : Env) (m : Sem Unit) (c : Code) : Sem Fin := do
  standAt p
  match ← pyNext it with
  | none => pure (.done .next)
  | some v =>
    letOwnedTupleGo t it v
    assign t env v
    let mut ok := true
    for c in ifs do
      if ok then ok ← isTrue c env (eval c env)
    if ok then m
    again c
/-- the add at the end -/
def addM (elt : Expr) (acc : Value) (env : Env) : Sem Unit := do
  let v ← eval elt env
  standAt elt.pos
  let _ ← call (.builtin "set.add") [acc, v]
/-- the next clause -/
def nextM (e i1 : Expr) (i : Nat) (acc : Value) (env : Env) : Sem Unit := do
  let x ← eval i1 env
  standAt i1.pos
  let x ← foldedSetIterable i1 env x
  let _ ← runOwn (.compStart e i (← holding [x] (pyIter x)) acc env) env

/-- what is left of the clauses reaches Nx, from these slots and this heap -/
abbrev TC := L2.St → Hp → (Hp → Prop) → Prop
def tAddS (P : Program) (w : World) (D : Addr) (te : TE) : TC := fun σ H Nx => te σ H fun y H1 => ∃ k l, y = .str k ∧ H1 D = some (SetSO P w D l) ∧ l.length + 1 < scanBound ∧ Nx (upd H1 D (SetSO P w D (addS k l)))
/-- the turns of a clause's loop: from the slots σ without vs -/
def Trn (J : It) (g : TG) (tt : TT) (tc : TC) (vs : List Nat) (σ : L2.St) (W : Nat → Nat → Hp → Prop) (Nx : Hp → Prop) : Prop := ∀ j k H, W j k H →
  (J.stop j H ∧ Nx H) ∨ (J.go j H ∧ ∃ N1 : Hp → Prop, (∀ H', N1 H' → ∃ k', k' < k ∧ W (j + 1) k' H') ∧ ∀ x H', J.yld j H x H' → g x (wipe σ vs) H' fun σ3 H5 => wipe σ3 vs = wipe σ vs ∧ tt σ3 H5 fun b H6 => if b = true then tc σ3 H6 N1 else N1 H6)
def tFor (wi : TI) (g : TG) (tt : TT) (tc : TC) (vs : List Nat) : TC := fun σ H Nx => wi σ H fun J H1 => ∃ W : Nat → Nat → Hp → Prop, (∃ m, W 0 m H1) ∧ Trn J g tt tc vs σ W Nx
/-- {elt for g in wi if tt ..} -/
def tScT (P : Program) (w : World) (wi : TI) (g : TG) (tt : TT) (tc : Addr → TC) (vs : List Nat) : TE := fun σ H Q => wi σ H fun J H1 => ∀ D, H1 D = none → ∃ W : Nat → Nat → Hp → Prop, (∃ m, W 0 m (upd H1 D (SetSO P w D []))) ∧ Trn J g tt (tc D) vs σ W fun H' => Q (.ref D) H'

/-- m does what tc says, the slots vs forgotten -/
def PC (Y : Cx) (vs : List Nat) (m : Sem Unit) (tc : TC) : Prop := ∀ pins s σ H Nx, Inv Y pins σ H s → tc σ H Nx → wpAny (model Y.prog Y.w) Y.A m (fun _ s' => ∃ H', Inv Y pins (wipe σ vs) H' s' ∧ Nx H') (fun _ _ => False) s
/-- the end of a clause's loop -/
abbrev LoopR (Y : Cx) (pins : List (Addr × Obj)) (σ : L2.St) (Nx : Hp → Prop) : Result → Shared → Prop := fun r s' => match r with
  | .ok _ => ∃ H', Inv Y pins σ H' s' ∧ Nx H'
  | .error _ => False

theorem wipe_keeps {σ σ' : L2.St} {vs vs2 : List Nat} (h : wipe σ' vs = wipe σ vs) (hv : ∀ j ∈ vs2, j ∈ vs) {j : Nat} {v : V} (e : (wipe σ vs)[j]? = some (some v)) : (wipe σ' vs2)[j]? = some (some v) := by
  rw [← h] at e
  obtain ⟨e1, e2⟩ := wipe_some e
  rw [wipe_out fun z => e2 (hv j z)]
  exact e1
section
variable {Y : Cx} {pins : List (Addr × Obj)} {σ : L2.St} {s : Shared} {H : Hp} {e : Expr} {i : Nat} {acc : Value} {p : Pos} {t : Expr} {ifs : List Expr} {m : Sem Unit} {it : Addr} {fp : List Addr} {tn : Nat → Heap → Prop} {J : It} {g : TG} {tt : TT} {tc : TC} {vs vs2 : List Nat} {Nx : Hp → Prop}
theorem loop_ok {elt : Expr} {gens : List Comprehension} {scope : Scope} {pos : Pos} (hE : e = .SetComp elt gens scope pos) (hc : Y.calm = true) (hx : Y.xe = fun _ _ => False) (heq : compTurn e i (.ref it) acc Y.env = turnS p t ifs (.ref it) Y.env m (.compLoop e i (.ref it) acc Y.env))
    (T : Turn Y.prog Y.w Y.K t J fp it tn) (pg : PG Y t g) (pt : PTs Y ifs tt) (pb : PC Y vs2 m tc) (hv : ∀ j ∈ vs2, j ∈ vs)
    (I : Inv Y pins (wipe σ vs) H s) (st : tn 0 s.heap) (nf : ∀ b ∈ fp, FpOk Y pins H b) {W : Nat → Nat → Hp → Prop} {m0 : Nat} (w0 : W 0 m0 H) (turn : Trn J g tt tc vs σ W Nx) :
    codeAny (model Y.prog Y.w) Y.A (.compLoop e i (.ref it) acc Y.env) (LoopR Y pins (wipe σ vs) Nx) s := by
  subst hE
  refine codeAny_loop rfl (fun n s' => ∃ j H', Inv Y pins (wipe σ vs) H' s' ∧ tn j s'.heap ∧ (∀ b ∈ fp, H' b = none) ∧ W j n H') (fun n s5 hI => ?_) m0 ⟨0, H, I, st, fun b hb => (nf b hb).1, w0⟩
  obtain ⟨j, H5, I5, st5, n5, w5⟩ := hI
  have stat : ∀ {H' : Hp}, (∀ b ∈ fp, H' b = none) → ∀ b ∈ fp, FpOk Y pins H' b := fun hn b hb => ⟨hn b hb, (nf b hb).2⟩
  show wpAny _ _ ((compTurn (.SetComp elt gens scope pos) i (.ref it) acc Y.env).onRaise (fun x => do noteFrame x Y.env; theTreesLotGoes x)) _ _ s5
  refine wpAny_noted ?_
  rw [heq]
  unfold turnS
  refine wpAny_bind (wpAny_standAt (wpAny_bind ?_))
  rcases turn j n H5 w5 with ⟨stop, nx⟩ | ⟨go, N1, hN, step⟩
  · refine thnF (T.done Y rfl rfl rfl hc j pins s5 _ H5 (fun _ _ => False) I5 (stat n5) st5 stop) fun r s6 ⟨hr, I6⟩ => ?_
    subst hr
    exact wpAny_pure ⟨H5, I6, nx⟩
  · refine thnF (T.item Y rfl rfl rfl hc j pins s5 _ H5 (fun _ _ => False) I5 (stat n5) st5 go) fun r s6 ⟨u, hr, h6⟩ => ?_
    subst hr
    refine wpAny_bind (thnF h6 fun _ s7 ⟨x, H7, I7, r7, y7, st7, n7⟩ => ?_)
    have I7' := I7.pinned (stat n7) (T.obj _ _ st7)
    have pg' := pg.run _ s7 _ H7 x u _ I7' r7 (step x H7 y7)
    rw [hx] at pg'
    refine wpAny_bind (thnF pg' fun _ s8 ⟨σ8, H8, I8, hw8, q8⟩ => ?_)
    have pt' := pt.run _ s8 σ8 H8 _ I8 q8
    rw [hx] at pt'
    refine wpAny_bind (thnF pt' fun b s9 ⟨H9, I9, q9⟩ => ?_)
    have fin : ∀ {σ9 : L2.St} {s' : Shared} {H' : Hp}, Inv Y (pins ++ pinsAt fp s7.heap) σ9 H' s' → (wipe σ vs).length = σ9.length → (∀ (j : Nat) v, (wipe σ vs)[j]? = some (some v) → σ9[j]? = some (some v)) → N1 H' →
        ∃ m, m < n ∧ ∃ j H', Inv Y pins (wipe σ vs) H' s' ∧ tn j s'.heap ∧ (∀ b ∈ fp, H' b = none) ∧ W j m H' := fun {σ9 s' H'} I' hl hk nx => by
      obtain ⟨m', hm, w'⟩ := hN H' nx
      have pin' : ∀ b ∈ fp, ∀ o, s7.heap.get? b = some o → s'.heap.get? b = some o ∧ H' b = none := fun b hb o e =>
        let z := I'.pin (b, o) (List.mem_append_right _ (List.mem_append_right _ (mem_pinsAt hb e)))
        ⟨z.1, z.2.1⟩
      refine ⟨m', hm, j + 1, H', I'.unpinned.weak hl hk, T.keep _ _ _ st7 fun b hb o e => (pin' b hb o e).1, fun b hb => ?_, w'⟩
      obtain ⟨o, e, _⟩ := T.obj _ _ st7 b hb
      exact (pin' b hb o e).2
    have hl8 : (wipe σ vs).length = σ8.length := by rw [← hw8, wipe_length]
    cases b with
    | false => exact wpAny_pure ⟨rfl, fin I9 hl8 (fun j v e => wipe_keeps (vs2 := []) hw8 (fun _ z => nomatch z) e) q9⟩
    | true =>
      refine wpAny_bind (thnF (pb _ s9 σ8 H9 _ I9 q9) fun _ s10 ⟨H10, I10, q10⟩ => ?_)
      exact wpAny_pure ⟨rfl, fin I10 (hl8.trans (wipe_length _ _).symm) (fun j v e => wipe_keeps hw8 hv e) q10⟩
theorem pc_add {elt : Expr} {te : TE} {D : Addr} (hx : Y.xe = fun _ _ => False) (he : PE Y elt te) : PC Y [] (addM elt (.ref D) Y.env) (tAddS Y.prog Y.w D te) := by
  intro pins s σ H Nx I h
  have he' := he.run pins s σ H _ I h
  rw [hx] at he'
  unfold addM
  refine wpAny_bind (thnF he' fun z s1 ⟨y, H1, I1, r1, k, l, ey, hD, room, nx⟩ => ?_)
  subst ey
  exact wpAny_bind (wpAny_standAt (wpAny_bind (addS_ok I1 hD room r1 fun s2 I2 => wpAny_pure ⟨_, I2, nx⟩)))
theorem pc_for {elt : Expr} {gens : List Comprehension} {scope : Scope} {pos : Pos} {i1 : Expr} {wi : TI} (hE : e = .SetComp elt gens scope pos) (hc : Y.calm = true) (hx : Y.xe = fun _ _ => False) (hs : ∀ x, foldedSetIterable i1 Y.env x = pure x)
    (hst : ∀ it s R, codeAny (model Y.prog Y.w) Y.A (.compLoop e i it acc Y.env) R s → wpAny (model Y.prog Y.w) Y.A (pyIter it) (fun it' s' => codeAny (model Y.prog Y.w) Y.A (.compLoop e i it' acc Y.env) R s') (notedBy (model Y.prog Y.w) Y.A Y.env fun x s' => R (.error x) s') s → codeAny (model Y.prog Y.w) Y.A (.compStart e i it acc Y.env) R s)
    (heq : ∀ it, compTurn e i it acc Y.env = turnS p t ifs it Y.env m (.compLoop e i it acc Y.env))
    (hi : PI Y t i1 wi) (pg : PG Y t g) (pt : PTs Y ifs tt) (pb : PC Y vs2 m tc) (hv : ∀ j ∈ vs2, j ∈ vs) : PC Y vs (nextM e i1 i acc Y.env) (tFor wi g tt tc vs) := by
  intro pins s σ H Nx I h
  have hi' := hi.run pins s σ H _ I h
  rw [hx] at hi'
  unfold nextM
  refine wpAny_bind (thnF hi' fun x s1 h1 => ?_)
  refine wpAny_bind (wpAny_standAt (wpAny_bind (wpAny_of_eq (hs x) (wpAny_bind (wpAny_holding (thnF h1 fun itv s2 h2 => ?_))))))
  obtain ⟨it, fp, tn, J, H2, ei, I2, T, st, nf, W, ⟨m0, w0⟩, turn⟩ := h2
  subst ei
  refine wpAny_bind (wpAny_runOwn ?_)
  rw [Around.mark_none]
  have loop : codeAny (model Y.prog Y.w) Y.A (.compLoop e i (.ref it) acc Y.env) (LoopR Y pins (wipe σ vs) Nx) s2 :=
    loop_ok hE hc hx (heq _) T pg pt pb hv (I2.weak (wipe_length _ _) (fun j v e => (wipe_some e).1)) st nf w0 turn
  refine codeAny_mono (hst _ s2 _ loop (T.self Y.A 0 _ _ _ st loop)) fun r s' hr => ?_
  cases r with
  | ok f => exact wpAny_pure hr
  | error e => exact hr.elim
end
/-- the second clause's start -/
theorem start1 {prog : Program} {w : World} {A : Around} {R : Result → Shared → Prop} {s : Shared} {elt t0 i0 t1 i1 : Expr} {ifs0 ifs1 : List Expr} {scope : Scope} {pos : Pos} {it acc : Value} {env : Env}
    (h0 : codeAny (model prog w) A (.compLoop (.SetComp elt [⟨t0, i0, ifs0, 0⟩, ⟨t1, i1, ifs1, 0⟩] scope pos) 1 it acc env) R s)
    (h : wpAny (model prog w) A (pyIter it) (fun it' s' => codeAny (model prog w) A (.compLoop (.SetComp elt [⟨t0, i0, ifs0, 0⟩, ⟨t1, i1, ifs1, 0⟩] scope pos) 1 it' acc env) R s') (notedBy (model prog w) A env fun x s' => R (.error x) s') s) :
    codeAny (model prog w) A (.compStart (.SetComp elt [⟨t0, i0, ifs0, 0⟩, ⟨t1, i1, ifs1, 0⟩] scope pos) 1 it acc env) R s := by
  refine codeAny_of_tree ?_
  show wpAny _ _ ((compStart (.SetComp elt [⟨t0, i0, ifs0, 0⟩, ⟨t1, i1, ifs1, 0⟩] scope pos) 1 it acc env).onRaise (fun x => do noteFrame x env; standAt theWindowsPlace)) _ _ s
  refine wpAny_notedAt ?_
  unfold compStart
  show wpAny _ _ (ask >>= _) _ _ s
  refine wpAny_bind (wpAny_askSetting (wpAny_ite ?_))
  split
  · first
      | exact wpAny_bind (wpAny_pure (wpAny_pure (And.intro rfl h0)))
      | exact wpAny_pure (And.intro rfl h0)
  · refine wpAny_bind (wpAny_rule ?_)
    show wpAny _ _ (standAt i1.pos >>= _) _ _ s
    exact wpAny_bind (wpAny_standAt (wpAny_bind (wpAny_mono h (fun it' s' h' => wpAny_pure (And.intro rfl h')) fun _ _ x => x)))
theorem turn1 (elt t0 i0 : Expr) (ifs0 : List Expr) (scope : Scope) (pos : Pos) (it acc : Value) (env : Env) :
    compTurn (.SetComp elt [⟨t0, i0, ifs0, 0⟩] scope pos) 0 it acc env = turnS i0.pos t0 ifs0 it env (addM elt acc env) (.compLoop (.SetComp elt [⟨t0, i0, ifs0, 0⟩] scope pos) 0 it acc env) := by rfl
theorem turn20 (elt t0 i0 t1 i1 : Expr) (ifs0 ifs1 : List Expr) (scope : Scope) (pos : Pos) (it acc : Value) (env : Env) :
    compTurn (.SetComp elt [⟨t0, i0, ifs0, 0⟩, ⟨t1, i1, ifs1, 0⟩] scope pos) 0 it acc env = turnS i0.pos t0 ifs0 it env (nextM (.SetComp elt [⟨t0, i0, ifs0, 0⟩, ⟨t1, i1, ifs1, 0⟩] scope pos) i1 1 acc env) (.compLoop (.SetComp elt [⟨t0, i0, ifs0, 0⟩, ⟨t1, i1, ifs1, 0⟩] scope pos) 0 it acc env) := by
  unfold turnS nextM
  refine Eq.trans (b := (do
      standAt i0.pos
      match ← pyNext it with
      | none => pure (.done .next)
      | some v =>
        letOwnedTupleGo t0 it v
        assign t0 env v
        let mut ok := true
        for c in ifs0 do
          if ok then ok ← isTrue c env (eval c env)
        if ok then
          let x ← eval i1 env
          standAt i1.pos
          let x ← foldedSetIterable i1 env x
          let _ ← runOwn (.compStart (.SetComp elt [⟨t0, i0, ifs0, 0⟩, ⟨t1, i1, ifs1, 0⟩] scope pos) 1 (← holding [x] (pyIter x)) acc env) env
        again (.compLoop (.SetComp elt [⟨t0, i0, ifs0, 0⟩, ⟨t1, i1, ifs1, 0⟩] scope pos) 0 it acc env))) (by rfl) ?_
  simp only [bind_assoc, pure_bind]
theorem turn21 (elt t0 i0 t1 i1 : Expr) (ifs0 ifs1 : List Expr) (scope : Scope) (pos : Pos) (it acc : Value) (env : Env) :
    compTurn (.SetComp elt [⟨t0, i0, ifs0, 0⟩, ⟨t1, i1, ifs1, 0⟩] scope pos) 1 it acc env = turnS i1.pos t1 ifs1 it env (addM elt acc env) (.compLoop (.SetComp elt [⟨t0, i0, ifs0, 0⟩, ⟨t1, i1, ifs1, 0⟩] scope pos) 1 it acc env) := by rfl
section
variable {X : Cx}
theorem sc_all {pins : List (Addr × Obj)} {s : Shared} {σ : L2.St} {H : Hp} {Q : VK} {elt tg iter : Expr} {ifs : List Expr} {gs : List Comprehension} {scope : Scope} {own : List (PySem.Str × Nat)} {pos pos' : Pos} {wi : TI} {g : TG} {tt : TT} {tc : Addr → TC} {m : Addr → Env → Sem Unit} {vs2 : List Nat}
    (hc : X.calm = true) (hN : X.N.Nodup) (I : Inv X pins σ H s) (hi : PI X tg iter wi) (ok : BlkOk X.N X.env.scope scope own) (hv : ∀ j ∈ vs2, j ∈ own.map (·.2))
    (hg : ∀ (s : Shared) (H : Hp) (C : Addr) (cl : List (PySem.Str × Addr)) (fp : List Addr), PG (X.blk s H scope (compEnvC scope cl C X.env) fp) tg g) (ht : ∀ (s : Shared) (H : Hp) (C : Addr) (cl : List (PySem.Str × Addr)) (fp : List Addr), PTs (X.blk s H scope (compEnvC scope cl C X.env) fp) ifs tt)
    (hb : ∀ (D : Addr) (s : Shared) (H : Hp) (C : Addr) (cl : List (PySem.Str × Addr)) (fp : List Addr), PC (X.blk s H scope (compEnvC scope cl C X.env) fp) vs2 (m D (compEnvC scope cl C X.env)) (tc D))
    (heq : ∀ D it env, compTurn (.SetComp elt (⟨tg, iter, ifs, 0⟩ :: gs) scope pos) 0 it (.ref D) env = turnS iter.pos tg ifs it env (m D env) (.compLoop (.SetComp elt (⟨tg, iter, ifs, 0⟩ :: gs) scope pos) 0 it (.ref D) env))
    (hs : ∀ x, foldedSetIterable iter X.env x = pure x) (h : tScT X.prog X.w wi g tt tc (own.map (·.2)) σ H Q) :
    wpAny (model X.prog X.w) X.A (comprehension (.SetComp elt (⟨tg, iter, ifs, 0⟩ :: gs) scope pos) scope X.env pos' (newSet (.type "set")) false (eval iter X.env) none) (EP X pins σ Q) X.xe s := by
  have hfree : ∀ y ∈ scope.names, y.2 = .free → ∃ c, X.env.cells.lookup y.1 = some c := fun y hy e => by
    rcases ok.free y hy e with k | k
    · exact I.ok.has _ (.inl k)
    · exact I.ok.has _ (.inr k)
  refine wpAny_comprehension_free (use := none) rfl hs (closure_ok hfree) ok.kind (fun y hy e => by rw [ok.uniq y hy, e])
    (thn (hi.run pins s σ H _ I h) fun xv s1 hx => thn hx fun itv s2 h2 => ?_)
  obtain ⟨it, fp, tn, J, H2, e, I2, T, st2, f2, q⟩ := h2
  subst e
  refine PpSet.newSet_ok (newEnv_comp ?_)
  have hDn : H2 s2.heap.objs.size = none := I2.hok.fresh (Nat.le_refl _)
  obtain ⟨W, ⟨m0, w0⟩, turn⟩ := q _ hDn
  have I3 : Inv X pins σ (upd H2 s2.heap.objs.size (SetSO X.prog X.w s2.heap.objs.size [])) { s2 with heap := s2.heap.push { cls := .type "set", dict := none, data := .set #[] 0 (.fresh 0 0 (!X.w.params.followText "set-order")) } } :=
    I2.laid (t' := s2.toks) (fun b o e => Heap.get?_push_of_some _ e) (Nat.le_refl _) (setSO_new setS_fresh)
  generalize hD : s2.heap.objs.size = D at *
  have f3 : ∀ b ∈ fp, FpOk X pins (upd H2 D (SetSO X.prog X.w D [])) b ∧ b < (s2.heap.push ({ cls := .type "set", dict := none, data := .set #[] 0 (.fresh 0 0 (!X.w.params.followText "set-order")) } : Obj)).objs.size := fun b hb => by
    obtain ⟨o, e, _⟩ := T.obj _ _ st2 b hb
    have hlt := Heap.lt_size e
    refine ⟨⟨?_, (f2 b hb).2⟩, by rw [Heap.size_push]; exact Nat.lt_succ_of_lt hlt⟩
    rw [upd_ne (by rw [← hD]; exact Nat.ne_of_lt hlt)]
    exact (f2 b hb).1
  have st3 : tn 0 (s2.heap.push ({ cls := .type "set", dict := none, data := .set #[] 0 (.fresh 0 0 (!X.w.params.followText "set-order")) } : Obj)) := T.keep _ _ _ st2 fun b _ o e => Heap.get?_push_of_some _ e
  generalize hs3 : ({ s2 with heap := s2.heap.push { cls := .type "set", dict := none, data := .set #[] 0 (.fresh 0 0 (!X.w.params.followText "set-order")) } } : Shared) = s3 at *
  have e3 : s3.heap = s2.heap.push { cls := .type "set", dict := none, data := .set #[] 0 (.fresh 0 0 (!X.w.params.followText "set-order")) } := by rw [← hs3]
  rw [← e3] at f3 st3
  have I4 := block_start I3 ok hN f3
  have pg := hg s3 (upd H2 D (SetSO X.prog X.w D [])) s3.heap.objs.size (cellsFrom (s3.heap.objs.size + 1) scope.names (cloFrom X.env.cells scope.names [])) fp
  have pt := ht s3 (upd H2 D (SetSO X.prog X.w D [])) s3.heap.objs.size (cellsFrom (s3.heap.objs.size + 1) scope.names (cloFrom X.env.cells scope.names [])) fp
  have pb := hb D s3 (upd H2 D (SetSO X.prog X.w D [])) s3.heap.objs.size (cellsFrom (s3.heap.objs.size + 1) scope.names (cloFrom X.env.cells scope.names [])) fp
  show codeAny _ _ (.compStart (.SetComp elt (⟨tg, iter, ifs, 0⟩ :: gs) scope pos) 0 (.ref it) (.ref D) (compEnvC scope (cellsFrom (s3.heap.objs.size + 1) scope.names (cloFrom X.env.cells scope.names [])) s3.heap.objs.size X.env)) (compPost (model X.prog X.w) X.A X.xe none (EP X pins σ Q) (.ref D) s3.heap.objs.size) { s3 with heap := pushCells (s3.heap.push { cls := .type "dict", data := .dict #[] }) scope.names }
  generalize hce : compEnvC scope (cellsFrom (s3.heap.objs.size + 1) scope.names (cloFrom X.env.cells scope.names [])) s3.heap.objs.size X.env = ce at I4 pg pt pb ⊢
  have cL : ce.locals = s3.heap.objs.size := by subst hce; rfl
  generalize hs4 : ({ s3 with heap := pushCells (s3.heap.push { cls := .type "dict", data := .dict #[] }) scope.names } : Shared) = s4 at I4 ⊢
  have st4 : tn 0 s4.heap := T.keep _ _ _ st3 fun b _ o e => by rw [← hs4]; exact pushCells_keeps _ _ _ _ (Heap.get?_push_of_some _ e)
  have nf : ∀ b ∈ fp, FpOk (X.blk s3 (upd H2 D (SetSO X.prog X.w D [])) scope ce fp) [] (upd H2 D (SetSO X.prog X.w D [])) b := fun b hb =>
    ⟨(f3 b hb).1.1, (I4.ok.exf b hb).1, I4.ok.exfs b hb, .inl hb, fun x c e => (I4.ok.exf b hb).2 x c e, fun p hp => absurd (show p ∈ ([] : List (Addr × Obj)) ++ [] from hp) (by simp)⟩
  have loop := loop_ok rfl (Y := X.blk s3 (upd H2 D (SetSO X.prog X.w D [])) scope ce fp) (pins := []) (acc := .ref D) hc rfl (heq D (.ref it) ce) T pg pt pb hv I4 st4 nf w0 turn
  have all := PpSet.codeAny_compStart_set loop (T.self X.A 0 _ _ _ st4 loop)
  refine codeAny_mono all fun r s6 hr => ?_
  cases r with
  | error e => exact hr.elim
  | ok f =>
    obtain ⟨H5, I6, qq⟩ := hr
    have I7 : Inv X pins σ H5 s6 := I3.call' (ch := fp) I6.os I6.base I6.hok I6.bare fun b hb => ⟨(f3 b hb).1.2.2.2.1, (f3 b hb).1.2.1, (f3 b hb).1.2.2.2.2.1, (f3 b hb).1.2.2.2.2.2⟩
    have nC : H5 s3.heap.objs.size = none := by
      have z : H5 ce.locals = none := I6.free
      rw [cL] at z
      exact z
    obtain ⟨m, hn, _⟩ := I6.loc
    have hn : s6.heap.Ns ce.locals m := hn
    rw [cL] at hn
    obtain ⟨f0, f1, f2, f3, f4, f5⟩ := I3.fpOk (Nat.le_refl _) nC
    exact ⟨m, hn, fun h'' sb => ⟨.ref D, H5, I7.turned (t' := s6.toks) (fun b o hb e => (sb.2 b hb).trans e) f0 f1 f3 f4 f5, rfl, qq⟩⟩
/-- {elt for tg in iter if ..} -/
theorem pe_scT {elt tg iter : Expr} {ifs : List Expr} {scope : Scope} {own : List (PySem.Str × Nat)} {pos : Pos} {wi : TI} {g : TG} {tt : TT} {te : TE} (hc : X.calm = true) (hN : X.N.Nodup) (hi : PI X tg iter wi) (ok : BlkOk X.N X.env.scope scope own)
    (hg : ∀ (s : Shared) (H : Hp) (C : Addr) (cl : List (PySem.Str × Addr)) (fp : List Addr), PG (X.blk s H scope (compEnvC scope cl C X.env) fp) tg g) (ht : ∀ (s : Shared) (H : Hp) (C : Addr) (cl : List (PySem.Str × Addr)) (fp : List Addr), PTs (X.blk s H scope (compEnvC scope cl C X.env) fp) ifs tt)
    (he : ∀ (s : Shared) (H : Hp) (C : Addr) (cl : List (PySem.Str × Addr)) (fp : List Addr), PE (X.blk s H scope (compEnvC scope cl C X.env) fp) elt te) (hs : ∀ x, foldedSetIterable iter X.env x = pure x := by intro _; rfl) :
    PE X (.SetComp elt [⟨tg, iter, ifs, 0⟩] scope pos) (tScT X.prog X.w wi g tt (fun D => tAddS X.prog X.w D te) (own.map (·.2))) := by
  refine ⟨fun pins s σ H Q I h => ?_⟩
  rw [PpSet.eval_SetComp]
  exact sc_all hc hN I hi ok (vs2 := []) (fun _ z => nomatch z) hg ht (fun D s H C cl fp => pc_add rfl (he s H C cl fp)) (fun D it env => turn1 ..) hs h
/-- {elt for tg in iter if .. for tg1 in iter1 if ..} -/
theorem pe_scT2 {elt tg iter tg1 iter1 : Expr} {ifs ifs1 : List Expr} {scope : Scope} {own : List (PySem.Str × Nat)} {vs1 : List Nat} {pos : Pos} {wi wi1 : TI} {g g1 : TG} {tt tt1 : TT} {te : TE} (hc : X.calm = true) (hN : X.N.Nodup) (hi : PI X tg iter wi) (ok : BlkOk X.N X.env.scope scope own) (hv : ∀ j ∈ vs1, j ∈ own.map (·.2))
    (hg : ∀ (s : Shared) (H : Hp) (C : Addr) (cl : List (PySem.Str × Addr)) (fp : List Addr), PG (X.blk s H scope (compEnvC scope cl C X.env) fp) tg g) (ht : ∀ (s : Shared) (H : Hp) (C : Addr) (cl : List (PySem.Str × Addr)) (fp : List Addr), PTs (X.blk s H scope (compEnvC scope cl C X.env) fp) ifs tt)
    (hi1 : ∀ (s : Shared) (H : Hp) (C : Addr) (cl : List (PySem.Str × Addr)) (fp : List Addr), PI (X.blk s H scope (compEnvC scope cl C X.env) fp) tg1 iter1 wi1)
    (hg1 : ∀ (s : Shared) (H : Hp) (C : Addr) (cl : List (PySem.Str × Addr)) (fp : List Addr), PG (X.blk s H scope (compEnvC scope cl C X.env) fp) tg1 g1) (ht1 : ∀ (s : Shared) (H : Hp) (C : Addr) (cl : List (PySem.Str × Addr)) (fp : List Addr), PTs (X.blk s H scope (compEnvC scope cl C X.env) fp) ifs1 tt1)
    (he : ∀ (s : Shared) (H : Hp) (C : Addr) (cl : List (PySem.Str × Addr)) (fp : List Addr), PE (X.blk s H scope (compEnvC scope cl C X.env) fp) elt te) (hs : ∀ x, foldedSetIterable iter X.env x = pure x := by intro _; rfl) (hs1 : ∀ env x, foldedSetIterable iter1 env x = pure x := by intro _ _; rfl) :
    PE X (.SetComp elt [⟨tg, iter, ifs, 0⟩, ⟨tg1, iter1, ifs1, 0⟩] scope pos) (tScT X.prog X.w wi g tt (fun D => tFor wi1 g1 tt1 (tAddS X.prog X.w D te) vs1) (own.map (·.2))) := by
  refine ⟨fun pins s σ H Q I h => ?_⟩
  rw [PpSet.eval_SetComp]
  exact sc_all hc hN I hi ok hv hg ht (fun D s H C cl fp => pc_for (Y := X.blk s H scope (compEnvC scope cl C X.env) fp) (vs2 := []) rfl hc rfl (hs1 _) (fun it s R => start1) (fun it => turn21 ..) (hi1 s H C cl fp) (hg1 s H C cl fp) (ht1 s H C cl fp) (pc_add rfl (he s H C cl fp)) (fun _ z => nomatch z)) (fun D it env => turn20 ..) hs h
end
end Stx

set_option Elab.async false
set_option linter.all false
set_option maxRecDepth 100000
set_option maxHeartbeats 4000000
/-! dict(xs) of a tuple of pairs. -/
namespace Stx
open PySem PySem.Spec PyProof.Rows L2
section
variable {X : Cx}
theorem pairs2 {pins : List (Addr × Obj)} {σ : L2.St} {H : Hp} {s : Shared} (I : Inv X pins σ H s) : ∀ {ps : List Addr} {kvs : List (Key × V)}, Paired (fun p kv => SqT X.K H p [kV kv.1, kv.2]) ps kvs →
    ∃ (pv : List (Value × Value)) (prs : List (Key × Value)), KV kvs prs ∧ pv.length = ps.length ∧ prs.length = ps.length ∧
      ∀ (j : Nat) (k v : Value), pv[j]? = some (k, v) → ∃ (b : Addr) (key : Key), ps[j]? = some b ∧ s.heap.IsTuple b #[k, v] ∧ prs[j]? = some (key, v) ∧ keyIs key k = true
  | _, _, .nil => ⟨[], [], .nil, rfl, rfl, fun j k v e => by simp at e⟩
  | _, _, .cons (a := p) (b := kv) h t => by
    obtain ⟨pv, prs, r, l1, l2, hp⟩ := pairs2 I t
    obtain ⟨its, rv, ⟨o, ho, hc, n, hd⟩, _⟩ := I.tuple h
    obtain ⟨u, y, ei, ru, ry⟩ := vals2 rv
    subst ei
    refine ⟨(u, y) :: pv, (kv.1, y) :: prs, .cons ⟨rfl, ry⟩ r, by rw [List.length_cons, List.length_cons, l1], by rw [List.length_cons, List.length_cons, l2], fun j k v e => ?_⟩
    cases j with
    | zero =>
      have e' : (u, y) = (k, v) := Option.some.inj e
      cases e'
      exact ⟨p, kv.1, rfl, ⟨o, ho, hc, n, hd⟩, rfl, kV_is (P := X.prog) (w := X.w) ru⟩
    | succ j =>
      obtain ⟨b, key, e1, e2, e3, e4⟩ := hp j k v (by simpa using e)
      exact ⟨b, key, by simpa using e1, e2, by simpa using e3, e4⟩
/-- dict(xs), xs a tuple (without a dict of its own) of pairs -/
def rDictT (K : PySem.W.Frag) : List V → Hp → VK → Prop := fun xs H Q => ∃ (a : Addr) (o : Obj) (ps : List Addr) (kvs : List (Key × V)), xs = [.ref a] ∧ o.dict = none ∧ H a = some (.frz o (.tup (ps.map V.ref))) ∧ Paired (fun p kv => SqT K H p [kV kv.1, kv.2]) ps kvs ∧
  ∀ p, H p = none → Q (.ref p) (upd H p (.dK (mergeK [] kvs)))
theorem cr_dictT (hc : X.calm = true) : CallR X (.type "dict") (rDictT X.K) := by
  intro pins s σ H xs us Q I r q
  obtain ⟨a, o, ps, kvs, rfl, hn, ha, hp, q⟩ := q
  rw [Vals.ref1 r]
  obtain ⟨ho, hz, its, rv, ⟨o', ho', hcl, n, hdat⟩⟩ := I.hok a _ ha
  rw [ho] at ho'
  cases ho'
  have ei := refs_at rv
  subst ei
  rw [List.length_map] at hz
  obtain ⟨pv, prs, rel, l1, l2, hpr⟩ := pairs2 I hp
  refine PySem.call_dict_pairs (knd := mixKind X.prog X.w) (kvs := prs) (PairArg.tuple a (ps.map Value.ref).toArray (fun j => (ps[j]?).getD 0) pv) (I.ok.hd hc) ⟨⟨o, n, ho, hcl, hn, hdat⟩, by simp [l1], fun j k v e => ?_⟩ ⟨by rw [l1, l2], fun j k v e => ?_⟩ (by rw [l1]; exact hz) fun h' tk hd' k => ?_
  · obtain ⟨b, key, e1, e2, _⟩ := hpr j k v e
    exact ⟨by simp [e1], .inl (by simp only [e1, Option.getD_some]; exact e2)⟩
  · obtain ⟨b, key, _, _, e3, e4⟩ := hpr j k v e
    exact ⟨key, e3, e4⟩
  · have hm : (s.heap.objs.size == sysModules) = false := beq_eq_false_iff_ne.mpr (Nat.ne_of_gt I.big)
    have hlen : (mergeK [] kvs).length ≤ sizeLine := by
      refine Nat.le_trans (length_mergeK kvs []) ?_
      rw [List.length_nil, Nat.zero_add, rel.length, l2]
      exact hz
    exact ⟨.ref s.heap.objs.size, upd H s.heap.objs.size (.dK (mergeK [] kvs)), I.laid (t' := tk) (fun b o e => k b o (fun z => nomatch z) e) (Nat.le_refl _) (show ObjOk X.prog X.w _ _ _ (.dK (mergeK [] kvs)) from ⟨hlen, hm, merged [] prs, KV.merge rel .nil, hd'⟩), rfl, q _ (I.hok.fresh (Nat.le_refl _))⟩
end
end Stx

set_option Elab.async false
set_option linter.all false
set_option maxRecDepth 100000
set_option maxHeartbeats 4000000
/-! The turns of a set comprehension over a list, over a tuple that it leaves as they are. -/
namespace Stx
open PySem PySem.Spec PyProof.Rows L2
theorem trn_list {K : PySem.W.Frag} {a : Addr} {xs : List V} {g : TG} {tt : TT} {tc : TC} {vs : List Nat} {σ : L2.St} {H1 : Hp} {Nx : Hp → Prop} (Pv : Nat → Hp → Prop) (h0 : Pv 0 H1) (hl : ∀ i H, i ≤ xs.length → Pv i H → SqL K H a xs)
    (hs : ∀ i x H, xs[i]? = some x → Pv i H → g x (wipe σ vs) H fun σ2 H2 => wipe σ2 vs = wipe σ vs ∧ tt σ2 H2 fun b H3 => if b = true then tc σ2 H3 (Pv (i + 1)) else Pv (i + 1) H3) (hd : ∀ H, Pv xs.length H → Nx H) :
    ∃ W : Nat → Nat → Hp → Prop, (∃ m, W 0 m H1) ∧ Trn (Itl K a) g tt tc vs σ W Nx := by
  refine ⟨fun i m H => m + i = xs.length ∧ Pv i H, ⟨xs.length, rfl, h0⟩, ?_⟩
  rintro i m H ⟨e, p⟩
  have q := hl i H (by omega) p
  match m, e with
  | 0, e =>
    have e' : i = xs.length := by omega
    exact .inl ⟨⟨xs, q, by omega⟩, hd H (e' ▸ p)⟩
  | m + 1, e =>
    have hi : i < xs.length := by omega
    refine .inr ⟨⟨xs, xs[i], q, by simp [hi]⟩, Pv (i + 1), fun H' p' => ⟨m, Nat.lt_succ_self m, by omega, p'⟩, fun x H' ⟨e1, y⟩ => ?_⟩
    subst e1
    exact hs i x _ (y xs q) p
theorem trn_tup {K : PySem.W.Frag} {a : Addr} {xs : List V} {g : TG} {tt : TT} {tc : TC} {vs : List Nat} {σ : L2.St} {H1 : Hp} {Nx : Hp → Prop} (Pv : Nat → Hp → Prop) (h0 : Pv 0 H1) (hl : ∀ i H, i ≤ xs.length → Pv i H → SqT K H a xs)
    (hs : ∀ i x H, xs[i]? = some x → Pv i H → g x (wipe σ vs) H fun σ2 H2 => wipe σ2 vs = wipe σ vs ∧ tt σ2 H2 fun b H3 => if b = true then tc σ2 H3 (Pv (i + 1)) else Pv (i + 1) H3) (hd : ∀ H, Pv xs.length H → Nx H) :
    ∃ W : Nat → Nat → Hp → Prop, (∃ m, W 0 m H1) ∧ Trn (Itt K a) g tt tc vs σ W Nx := by
  refine ⟨fun i m H => m + i = xs.length ∧ Pv i H, ⟨xs.length, rfl, h0⟩, ?_⟩
  rintro i m H ⟨e, p⟩
  have q := hl i H (by omega) p
  match m, e with
  | 0, e =>
    have e' : i = xs.length := by omega
    exact .inl ⟨⟨xs, q, by omega⟩, hd H (e' ▸ p)⟩
  | m + 1, e =>
    have hi : i < xs.length := by omega
    refine .inr ⟨⟨xs, xs[i], q, by simp [hi]⟩, Pv (i + 1), fun H' p' => ⟨m, Nat.lt_succ_self m, by omega, p'⟩, fun x H' ⟨e1, y⟩ => ?_⟩
    subst e1
    exact hs i x _ (y xs q) p
end Stx

set_option Elab.async false
set_option linter.all false
set_option maxRecDepth 100000
set_option maxHeartbeats 4000000
namespace Hl
open PySem PySem.Spec PyProof.Rows L2
abbrev sDeal : Stmt := topS 30
abbrev sPick : Stmt := topS 31
abbrev sOf : Stmt := topS 32
abbrev sLike : Stmt := topS 33
theorem lg {n : Int} {b : Nat} (h : n.natAbs < 2 ^ b) (h0 : 0 < b) (h9 : b ≤ 9000) : n.natAbs.log2 < 9000 := Nat.lt_of_lt_of_le (PySem.Flt.log2_lt_of h0 h) h9
/-! what a rule does with a number -/
structure OkE (e a : Int) (m : Option Int) : Prop where
  e1 : 1 ≤ e
  e4 : e ≤ 4
  a0 : 0 ≤ a
  a2 : a ≤ 2
  mo : m = none ∨ m = some 1 ∨ m = some 2
def downF (e a : Int) (m : Option Int) (x : Int) : Int :=
  match m with
  | some k => if a + e * k < x then a + e * k else x
  | none => if x < a then x else a + (x - a) % e
def timesF (e a : Int) (m : Option Int) (x : Int) : Int :=
  match m with
  | some k => if k < (if x - a > 0 then x - a else 0) / e then k else (if x - a > 0 then x - a else 0) / e
  | none => (if x - a > 0 then x - a else 0) / e
theorem down_add {e a : Int} {m : Option Int} {x w : Int} (h : OkE e a m) (hx : 0 ≤ x) (hw : 0 ≤ w) : downF e a m (downF e a m x + w) = downF e a m (x + w) := by
  obtain ⟨e1, e4, a0, a2, mo⟩ := h
  have he : e = 1 ∨ e = 2 ∨ e = 3 ∨ e = 4 := by omega
  rcases mo with rfl | rfl | rfl <;> rcases he with rfl | rfl | rfl | rfl <;> simp only [downF] <;> omega
theorem times_add {e a : Int} {m : Option Int} {x w : Int} (h : OkE e a m) (hx : 0 ≤ x) (hw : 0 ≤ w) : timesF e a m (downF e a m x + w) - timesF e a m (downF e a m x) = timesF e a m (x + w) - timesF e a m x := by
  obtain ⟨e1, e4, a0, a2, mo⟩ := h
  have he : e = 1 ∨ e = 2 ∨ e = 3 ∨ e = 4 := by omega
  rcases mo with rfl | rfl | rfl <;> rcases he with rfl | rfl | rfl | rfl <;> simp only [downF, timesF] <;> omega
theorem down_ge {e a : Int} {m : Option Int} {x : Int} (h : OkE e a m) (hx : 0 ≤ x) : 0 ≤ downF e a m x := by
  obtain ⟨e1, e4, a0, a2, mo⟩ := h
  have he : e = 1 ∨ e = 2 ∨ e = 3 ∨ e = 4 := by omega
  rcases mo with rfl | rfl | rfl <;> rcases he with rfl | rfl | rfl | rfl <;> simp only [downF] <;> omega
theorem down_le {e a : Int} {m : Option Int} {x : Int} (h : OkE e a m) (hx : 0 ≤ x) : downF e a m x ≤ 10 := by
  obtain ⟨e1, e4, a0, a2, mo⟩ := h
  have he : e = 1 ∨ e = 2 ∨ e = 3 ∨ e = 4 := by omega
  rcases mo with rfl | rfl | rfl <;> rcases he with rfl | rfl | rfl | rfl <;> simp only [downF] <;> omega
theorem times_mono {e a : Int} {m : Option Int} {x w : Int} (h : OkE e a m) (hx : 0 ≤ x) (hw : 0 ≤ w) : 0 ≤ timesF e a m (x + w) - timesF e a m x ∧ timesF e a m (x + w) - timesF e a m x ≤ x + w := by
  obtain ⟨e1, e4, a0, a2, mo⟩ := h
  have he : e = 1 ∨ e = 2 ∨ e = 3 ∨ e = 4 := by omega
  rcases mo with rfl | rfl | rfl <;> rcases he with rfl | rfl | rfl | rfl <;> simp only [timesF] <;> omega
/-- a positive divisor below 2 ^ 9000 -/
def CDivP (_ j : Int) : Prop := 0 < j ∧ j.natAbs.log2 < 9000
theorem op_fdivP {X : Cx} : OpR X (binaryOp .FloorDiv) (rI CDivP fun i j => .int (i / j)) := opI fun i j _ _ _ _ _ hc q => by
  have h1 : (0 : Int) < j := hc.1
  exact floordiv_int (by omega) (by rw [Int.fdiv_eq_ediv_of_nonneg i (by omega)]; exact q) (.inl (PyProof.noPylong_of_log2 hc.2))
/-- what stands in a deal -/
def d5 (l : Addr) (at' z m c : Int) : HO := .lst [.ref l, .int at', .int z, .int m, .int c]
structure Deal (H : Hp) (p l : Addr) : Prop where
  ex : ∃ (ns : List Int) (a z m c : Int), H p = some (d5 l a z m c) ∧ H l = some (.lst (ns.map V.int)) ∧ l ≠ p ∧ 0 ≤ a ∧ 0 ≤ z ∧ 0 ≤ m ∧ m < 2147483587
theorem upd_upd {H : Hp} {p : Addr} {a b : HO} : upd (upd H p a) p b = upd H p b := by
  funext x
  by_cases h : x = p
  · rw [h, upd_same, upd_same]
  · rw [upd_ne h, upd_ne h, upd_ne h]
theorem same_upd {H : Hp} {p : Addr} {o : HO} (h : H p = none) : Same H (upd H p o) := fun b x e => by
  rw [upd_ne (ne_of_none e h)]
  exact e
theorem ne_of_fresh {H : Hp} {a b : Addr} {o : HO} (h : H a = some o) (n : H b = none) : b ≠ a := fun e => by
  rw [e, h] at n
  cases n
/-- no deal -/
def Nd (o : HO) : Prop := ∀ l a z m c, o ≠ d5 l a z m c
/-- all that is tracked and no deal stays, nothing is let go -/
structure Kp (H H' : Hp) : Prop where
  keep : ∀ b o, Nd o → H b = some o → H' b = some o
  free : ∀ b, H' b = none → H b = none
theorem Kp.refl (H : Hp) : Kp H H := ⟨fun _ _ _ h => h, fun _ h => h⟩
theorem Kp.trans {H H1 H2 : Hp} (a : Kp H H1) (b : Kp H1 H2) : Kp H H2 := ⟨fun x o n h => b.keep x o n (a.keep x o n h), fun x h => a.free x (b.free x h)⟩
theorem Kp.of {H H1 : Hp} (a : Same H H1) : Kp H H1 := ⟨fun x o _ h => a x o h, fun x h => a.free h⟩
theorem Deal.there {H : Hp} {p l : Addr} (d : Deal H p l) : (∃ o, H p = some o) ∧ ∃ o, H l = some o := by
  obtain ⟨ns, a, z, m, c, hp, hl, r⟩ := d
  exact ⟨⟨_, hp⟩, ⟨_, hl⟩⟩
theorem Deal.ne {H : Hp} {p l q : Addr} (d : Deal H p l) (h : H q = none) : q ≠ p := by
  obtain ⟨⟨o, e⟩, _⟩ := d.there
  exact ne_of_fresh e h
theorem Deal.nl {H : Hp} {p l q : Addr} (d : Deal H p l) (h : H q = none) : q ≠ l := by
  obtain ⟨_, ⟨o, e⟩⟩ := d.there
  exact ne_of_fresh e h
theorem Deal.other {H : Hp} {p l q : Addr} {o : HO} (d : Deal H p l) (h : H q = some o) (n : Nd o) : q ≠ p := by
  obtain ⟨ns, a, z, m, c, hp, hl, r⟩ := d
  intro e
  rw [e, hp] at h
  exact n _ _ _ _ _ (Option.some.inj h).symm
theorem Deal.same {H H' : Hp} {p l : Addr} (d : Deal H p l) (e : Same H H') : Deal H' p l := by
  obtain ⟨ns, a, z, m, c, hp, hl, r⟩ := d
  exact ⟨ns, a, z, m, c, e _ _ hp, e _ _ hl, r⟩
theorem Kp.deal {H : Hp} {p l : Addr} {o : HO} (d : Deal H p l) : Kp H (upd H p o) := ⟨fun b x n h => by rw [upd_ne (d.other h n)]; exact h, fun b h => by
  by_cases e : b = p
  · rw [e, upd_same] at h
    cases h
  · rw [upd_ne e] at h
    exact h⟩
/-- what is new may change -/
theorem Kp.put {H H' : Hp} {D : Addr} {o : HO} (k : Kp H H') (n : H D = none) : Kp H (upd H' D o) := ⟨fun b x nx h => by rw [upd_ne (ne_of_none h n)]; exact k.keep b x nx h, fun b h => by
  by_cases e : b = D
  · rw [e]
    exact n
  · rw [upd_ne e] at h
    exact k.free b h⟩
theorem Deal.put {H : Hp} {p l D : Addr} {o : HO} (d : Deal H p l) (n1 : D ≠ p) (n2 : D ≠ l) : Deal (upd H D o) p l := by
  obtain ⟨ns, a, z, m, c, hp, hl, r⟩ := d
  exact ⟨ns, a, z, m, c, by rw [upd_ne n1.symm]; exact hp, by rw [upd_ne n2.symm]; exact hl, r⟩
theorem nd_tup {xs : List V} : Nd (.tup xs) := fun _ _ _ _ _ h => by cases h
theorem nd_dK {xs : List (Key × V)} : Nd (.dK xs) := fun _ _ _ _ _ h => by cases h
theorem nd_lst {xs : List V} (h : ∀ (x : V) (r : List V), xs = x :: r → ∀ a, x ≠ .ref a) : Nd (.lst xs) := fun l a z m c e => by
  have e' := HO.lst.inj (show HO.lst xs = .lst [.ref l, .int a, .int z, .int m, .int c] from e)
  exact h _ _ e' _ rfl
theorem nd_strs {ns : List Str} : Nd (.lst (ns.map V.str)) := nd_lst fun x r e a => by
  cases ns with
  | nil => cases e
  | cons s t =>
    cases e
    intro z
    cases z
theorem nd_ints {ns : List Int} : Nd (.lst (ns.map V.int)) := nd_lst fun x r e a => by
  cases ns with
  | nil => cases e
  | cons s t =>
    cases e
    intro z
    cases z
theorem nd_bls {ns : List Bool} : Nd (.lst (ns.map V.bl)) := nd_lst fun x r e a => by
  cases ns with
  | nil => cases e
  | cons s t =>
    cases e
    intro z
    cases z
theorem nd_refs {ns : List Addr} : Nd (.lst (ns.map V.ref)) := fun l a z m c e => by
  have e' := HO.lst.inj (show HO.lst (ns.map V.ref) = .lst [.ref l, .int a, .int z, .int m, .int c] from e)
  cases ns with
  | nil => cases e'
  | cons s t =>
    cases t with
    | nil =>
      simp at e'
    | cons s2 t2 => simp at e'
theorem nd_nil : Nd (.lst []) := nd_strs (ns := [])
theorem cut63 {xs : List V} (h : xs.length ≤ 63) : cutV xs none (some 63) = xs := by
  unfold cutV
  rw [HT.sIx_none, show HT.sIx xs.length xs.length (some 63) = min 63 xs.length from HT.sIx_nat xs.length xs.length 63, Nat.min_eq_right h]
  show (List.take (xs.length - 0) xs) = xs
  rw [Nat.sub_zero, List.take_length]
section
variable {P : Program} {w : World} {K : PySem.W.Frag} {mg : Str → Option Value} {base : Heap}
/-! _law_deal -/
def spDeal (K : PySem.W.Frag) : Sp := fun vs H Q _ => ∃ (a : Addr) (ns : List Int), vs = [.ref a] ∧ SqL K H a (ns.map V.int) ∧ ns.length ≤ 63 ∧
  ∀ H' p l, Same H H' → H p = none → Deal H' p l → Q (.ref p) H'
theorem scD : FnScope ["_law_script", "_law_mixed", "_law_cell"] ["_law_script"] (defScope sDeal) := ⟨rfl, rfl, rfl, by decide +kernel, rfl, by decide +kernel, by decide +kernel⟩
theorem ok_deal {f : Addr} {fd : FuncData} {k : Nat} (F : Fun K "_law_deal" "_law_deal" sDeal f fd) (mL : mg "list" = none) : FnOk P w K mg base CX0 (k + 1) f fd ["_law_script"] (spDeal K) := by
  refine F.ok scD (fun vs H Q E h => ?_) (fun cdv A outer s H vs Q E hr h => ?_)
  · obtain ⟨a, ns, rfl, _⟩ := h
    rfl
  · obtain ⟨a, ns, rfl, hS, hlen, q⟩ := h
    refine ⟨_, pss_cons (ps_set (i := 1) scD.nd rfl (.inl rfl) pe_int)
      (pss_cons (ps_for PassesOwn.never rfl (pi_list (pe_slice sl_list (pv 0) po_none (po_some pe_int))) (pg_name (i := 2) scD.nd rfl (.inl rfl))
        (pss_one (ps_set (i := 1) scD.nd rfl (.inl rfl) (pe_op op_mod (pe_op op_add (pe_op op_add (pe_op op_mul (pv 1) pe_int) (pe_op op_mod (pv 2) pe_int)) pe_int) pe_int))))
      (pss_one (ps_ret (pe_lst (pa_cons (pe_callTy call_list_of (by rfl) mL (by decide +kernel) (pa_cons (pe_slice sl_list (pv 0) po_none (po_some pe_int)) pa_nil)) (pa_cons pe_int (pa_cons pe_int (pa_cons (pv 1) (pa_cons pe_int pa_nil))))))))), ?_⟩
    have hl63 : (ns.map V.int).length ≤ 63 := by rw [List.length_map]; exact hlen
    refine ⟨_, rfl, 63, rfl, a, ns.map V.int, rfl, hS, fun c nc => ?_⟩
    rw [cut63 hl63]
    have s1 : Same H (upd H c (.lst (ns.map V.int))) := same_upd nc
    refine ⟨c, rfl, ⟨_, SqL.of upd_same⟩, for_list (K := K) (a := c) (xs := ns.map V.int) (fun i σ H' => ∃ (m : Int) (v : Option V), σ = [some (.ref a), some (.int m), v] ∧ 0 ≤ m ∧ m < 2147483587 ∧ H' = upd H c (.lst (ns.map V.int)))
      ⟨9144, none, rfl, by decide, by decide, rfl⟩ (fun i σ H' _ ⟨_, _, _, _, _, e⟩ => by rw [e]; exact SqL.of upd_same) ?_ ?_⟩
    · rintro i y σ H' hi ⟨m, v, rfl, h0, h1, rfl⟩
      obtain ⟨z, hz, rfl⟩ : ∃ z, ns[i]? = some z ∧ y = V.int z := by
        rw [List.getElem?_map] at hi
        cases e : ns[i]? with
        | none =>
          rw [e] at hi
          cases hi
        | some z =>
          rw [e] at hi
          exact ⟨z, rfl, (Option.some.inj hi).symm⟩
      refine ⟨_, rfl, _, _, rfl, rfl, .inl ⟨by omega, by omega⟩, _, rfl, _, _, rfl, rfl, (by show (0 : Int) < 2147483629; decide), _, _, rfl, rfl, _, _, rfl, rfl, _, _, rfl, rfl, (by show (0 : Int) < 2147483587; decide), ?_⟩
      exact ⟨_, some (.int z), rfl, Int.emod_nonneg _ (by decide), Int.emod_lt_of_pos _ (by decide), rfl⟩
    · rintro σ H' ⟨m, v, rfl, h0, h1, rfl⟩
      refine ⟨_, rfl, 63, rfl, a, ns.map V.int, rfl, s1.seq hS, fun b nb => ?_⟩
      rw [cut63 hl63]
      have s2 := same_upd (o := .lst (ns.map V.int)) nb
      refine ⟨b, _, rfl, .inl (SqL.of upd_same), fun l nl => ?_⟩
      have s3 := same_upd (o := .lst (ns.map V.int)) nl
      refine ⟨_, rfl, (by show 5 ≤ sizeLine; decide), fun p np => ?_⟩
      have s4 := same_upd (o := d5 l 0 0 m 0) np
      have S3 := s1.trans (s2.trans s3)
      refine q _ p l (S3.trans s4) (S3.free np) ⟨ns, 0, 0, m, 0, upd_same, ?_, ?_, by decide, by decide, h0, h1⟩
      · exact s4 _ _ upd_same
      · exact (ne_of_fresh (o := .lst (ns.map V.int)) upd_same np).symm
end
section
variable {P : Program} {w : World} {K : PySem.W.Frag} {mg : Str → Option Value} {base : Heap}
/-! _law_pick -/
def spPick : Sp := fun vs H Q _ => ∃ (p l : Addr) (n : Int), vs = [.ref p, .int n] ∧ Deal H p l ∧ 0 < n ∧ n.natAbs.log2 < 9000 ∧
  ∀ (H' : Hp) (r : Int), Kp H H' → Deal H' p l → 0 ≤ r → r < n → Q (.int r) H'
theorem scK : FnScope ["_law_deal_here", "_law_many", "_law_cell", "_law_got", "_law_seed"] ["_law_deal_here", "_law_many"] (defScope sPick) := ⟨rfl, rfl, rfl, by decide +kernel, rfl, by decide +kernel, by decide +kernel⟩
theorem ok_pick {f : Addr} {fd : FuncData} {k : Nat} (F : Fun K "_law_pick" "_law_pick" sPick f fd) (mLen : mg "len" = none) : FnOk P w K mg base CX0 (k + 1) f fd ["_law_deal_here", "_law_many"] spPick := by
  refine F.ok scK (fun vs H Q E h => ?_) (fun cdv A outer s H vs Q E hr h => ?_)
  · obtain ⟨a, l, ns, rfl, _⟩ := h
    rfl
  · obtain ⟨p, l, n, rfl, dl0, hn, hn2, q⟩ := h
    have kd : ∀ o, Kp H (upd H p o) := fun o => Kp.deal dl0
    obtain ⟨ns, a, z, m, c, hp, hl, hlp, ha, hz, hm, hm2⟩ := dl0
    refine ⟨_, pss_cons (ps_asg (pe_op op_add (pe_ix ix_list (pv 0) pe_int (fun _ _ => rfl)) pe_int) (pg_sub (pv 0) pe_int set_list))
      (Evl.pss_cut (ps_if (PW.pt (pw_and (pt_cmpR op_eq (pe_ix ix_list (pv 0) pe_int (fun _ _ => rfl)) pe_int (nomark _)) (pw_and1 (pt_cmpR op_lt (pe_ix ix_list (pv 0) pe_int (fun _ _ => rfl)) (pe_callB call_len_seq (by rfl) mLen PySem.boot_len (pa_cons (pe_ix ix_list (pv 0) pe_int (fun _ _ => rfl)) pa_nil)) (nomark _)))))
          (pss_cons (ps_set (i := 2) scK.nd rfl (.inl rfl) (pe_ix ix_list (pe_ix ix_list (pv 0) pe_int (fun _ _ => rfl)) (pe_ix ix_list (pv 0) pe_int (fun _ _ => rfl)) (fun _ _ => rfl)))
          (pss_cons (ps_asg (pe_op op_add (pe_ix ix_list (pv 0) pe_int (fun _ _ => rfl)) pe_int) (pg_sub (pv 0) pe_int set_list))
          (pss_one (ps_if (pt_cmpR op_ge (pv 2) (pe_op op_pow pe_int pe_int) (nomark _)) (pss_one (ps_asg (pv 2) (pg_sub (pv 0) pe_int set_list)))
            (pss_one (ps_asg (pe_op op_mod (pe_op op_add (pe_op op_add (pe_op op_mul (pe_ix ix_list (pv 0) pe_int (fun _ _ => rfl)) pe_int) (pe_op op_mul (pe_op op_mod (pv 2) pe_int) pe_int)) pe_int) pe_int) (pg_sub (pv 0) pe_int set_list)))))))
          pss_nil)
      (pss_cons (ps_if (pt_cmpR op_gt (pe_ix ix_list (pv 0) pe_int (fun _ _ => rfl)) pe_int (nomark _))
          (pss_cons (ps_set (i := 3) scK.nd rfl (.inl rfl) (pe_op op_mod (pe_ix ix_list (pv 0) pe_int (fun _ _ => rfl)) (pv 1)))
          (pss_cons (ps_asg (pe_op op_fdivP (pe_ix ix_list (pv 0) pe_int (fun _ _ => rfl)) (pv 1)) (pg_sub (pv 0) pe_int set_list))
          (pss_one (ps_ret (pv 3))))) pss_nil)
      (pss_cons (ps_set (i := 4) scK.nd rfl (.inl rfl) (pe_ix ix_list (pv 0) pe_int (fun _ _ => rfl)))
      (pss_cons (ps_asg (pe_op op_mod (pe_op op_add (pe_op op_add (pe_op op_add (pe_op op_mul (pe_op op_mod (pe_op op_mul (pv 4) (pv 4)) pe_int) pe_int) (pe_op op_mul (pv 4) pe_int)) pe_int) (pe_ix ix_list (pv 0) pe_int (fun _ _ => rfl))) pe_int) (pg_sub (pv 0) pe_int set_list))
      (pss_one (ps_ret (pe_op op_mod (pe_op op_add (pe_op op_fdivP (pe_ix ix_list (pv 0) pe_int (fun _ _ => rfl)) pe_int) (pe_op op_mul (pe_op op_mod (pe_ix ix_list (pv 0) pe_int (fun _ _ => rfl)) pe_int) pe_int)) (pv 1)))))))), ?_⟩
    -- deal[4] = deal[4] + 1
    refine ⟨_, rfl, p, _, 4, _, rfl, rfl, SqL.of hp, atI_nat (j := 4) rfl, _, _, rfl, rfl, _, rfl, p, _, 4, 4, rfl, rfl, hp, by rfl, ?_⟩
    have hl1 : ∀ o, upd H p o l = some (.lst (ns.map V.int)) := fun o => by rw [upd_ne hlp]; exact hl
    have hp1 : (upd H p (d5 l a z m (c + 1))) p = some (d5 l a z m (c + 1)) := upd_same
    -- the ways meet
    refine ⟨fun σ' H' => ∃ (v : Option V) (a z m : Int), σ' = [some (.ref p), some (.int n), v, none, none] ∧ H' = upd H p (d5 l a z m (c + 1)) ∧ 0 ≤ a ∧ 0 ≤ z ∧ 0 ≤ m ∧ m < 2147483587, ?_, ?_⟩
    · refine ⟨_, rfl, p, _, 2, _, rfl, rfl, SqL.of hp1, atI_nat (j := 2) rfl, rfl, _, rfl, ite2 (fun e => ?_) (fun e => ?_)⟩
      · refine ⟨_, rfl, p, _, 1, _, rfl, rfl, SqL.of hp1, atI_nat (j := 1) rfl, _, rfl, p, _, 0, _, rfl, rfl, SqL.of hp1, atI_nat (j := 0) rfl, l, _, rfl, .inl (SqL.of (hl1 _)), _, _, rfl, rfl, _, rfl, ite2 (fun e2 => ?_) (fun e2 => ?_)⟩
        · have hlt : a < ((ns.map V.int).length : Int) := of_decide_eq_true e2
          obtain ⟨j, rfl⟩ := Int.eq_ofNat_of_zero_le ha
          have hj : j < ns.length := by
            rw [List.length_map] at hlt
            omega
          have gj : (ns.map V.int)[j]? = some (.int ns[j]) := by
            rw [List.getElem?_map, List.getElem?_eq_getElem hj]
            rfl
          refine ⟨_, rfl, p, _, 0, _, rfl, rfl, SqL.of hp1, atI_nat (j := 0) rfl, _, rfl, p, _, 1, _, rfl, rfl, SqL.of hp1, atI_nat (j := 1) rfl, l, _, _, _, rfl, rfl, SqL.of (hl1 _), atI_nat (j := j) gj, ?_⟩
          refine ⟨_, rfl, p, _, 1, _, rfl, rfl, SqL.of hp1, atI_nat (j := 1) rfl, _, _, rfl, rfl, _, rfl, p, _, 1, 1, rfl, rfl, hp1, by rfl, ?_⟩
          have hp2 : (upd (upd H p (d5 l j z m (c + 1))) p (d5 l (j + 1) z m (c + 1))) p = some (d5 l (j + 1) z m (c + 1)) := upd_same
          refine ⟨_, rfl, _, _, rfl, rfl, ⟨by decide, by decide, by decide⟩, _, _, rfl, rfl, _, rfl, ite2 (fun e3 => ?_) (fun e3 => ?_)⟩
          · have h18 : (1000000000000000000 : Int) ≤ ns[j] := of_decide_eq_true e3
            refine ⟨_, rfl, _, rfl, p, _, 2, 2, rfl, rfl, hp2, by rfl, ?_⟩
            exact ⟨_, _, _, _, rfl, by rw [upd_upd, upd_upd]; rfl, by omega, by omega, hm, hm2⟩
          · refine ⟨_, rfl, p, _, 3, _, rfl, rfl, SqL.of hp2, atI_nat (j := 3) rfl, _, _, rfl, rfl, .inl ⟨by omega, by omega⟩, _, rfl, _, _, rfl, rfl, (by show (0 : Int) < 2147483629; decide), _, _, rfl, rfl, .inr ⟨by decide, by decide⟩, _, _, rfl, rfl, _, _, rfl, rfl, _, _, rfl, rfl, (by show (0 : Int) < 2147483587; decide), _, rfl, p, _, 3, 3, rfl, rfl, hp2, by rfl, ?_⟩
            exact ⟨_, _, _, _, rfl, by rw [upd_upd, upd_upd]; rfl, by omega, hz, Int.emod_nonneg _ (by decide), Int.emod_lt_of_pos _ (by decide)⟩
        · exact ⟨_, _, _, _, rfl, rfl, ha, hz, hm, hm2⟩
      · exact iteF ⟨_, _, _, _, rfl, rfl, ha, hz, hm, hm2⟩
    · rintro σ' H' ⟨v, a, z, m, rfl, rfl, ha, hz, hm, hm2⟩
      have hp1 : (upd H p (d5 l a z m (c + 1))) p = some (d5 l a z m (c + 1)) := upd_same
      have dl : ∀ (z m : Int), 0 ≤ z → 0 ≤ m → m < 2147483587 → Deal (upd H p (d5 l a z m (c + 1))) p l := fun z m h1 h2 h3 => ⟨ns, a, z, m, c + 1, upd_same, hl1 _, hlp, ha, h1, h2, h3⟩
      refine ⟨_, rfl, p, _, 2, _, rfl, rfl, SqL.of hp1, atI_nat (j := 2) rfl, _, _, rfl, rfl, _, rfl, ite2 (fun e => ?_) (fun e => ?_)⟩
      · refine ⟨_, rfl, p, _, 2, _, rfl, rfl, SqL.of hp1, atI_nat (j := 2) rfl, _, rfl, _, _, rfl, rfl, hn, ?_⟩
        refine ⟨_, rfl, p, _, 2, _, rfl, rfl, SqL.of hp1, atI_nat (j := 2) rfl, _, rfl, _, _, rfl, rfl, ⟨hn, hn2⟩, _, rfl, p, _, 2, 2, rfl, rfl, hp1, by rfl, ?_⟩
        refine ⟨_, rfl, ?_⟩
        rw [upd_upd]
        exact q _ _ (kd _) (dl _ _ (Int.ediv_nonneg hz (Int.le_of_lt hn)) hm hm2) (Int.emod_nonneg _ (by omega)) (Int.emod_lt_of_pos _ hn)
      · refine ⟨_, rfl, p, _, 3, _, rfl, rfl, SqL.of hp1, atI_nat (j := 3) rfl, ?_⟩
        refine ⟨_, rfl, _, rfl, _, _, rfl, rfl, .inl ⟨by omega, by omega⟩, _, _, rfl, rfl, (by show (0 : Int) < 2147483563; decide), _, _, rfl, rfl, .inr ⟨by decide, by decide⟩, _, rfl, _, _, rfl, rfl, .inr ⟨by decide, by decide⟩, _, _, rfl, rfl, _, _, rfl, rfl, _, rfl, p, _, 4, _, rfl, rfl, SqL.of hp1, atI_nat (j := 4) rfl, _, _, rfl, rfl, _, _, rfl, rfl, (by show (0 : Int) < 2147483587; decide), _, rfl, p, _, 3, 3, rfl, rfl, hp1, by rfl, ?_⟩
        refine ⟨_, rfl, p, _, 3, _, rfl, rfl, SqL.of upd_same, atI_nat (j := 3) rfl, _, _, rfl, rfl, ⟨by decide, by decide⟩, _, rfl, p, _, 3, _, rfl, rfl, SqL.of upd_same, atI_nat (j := 3) rfl, _, _, rfl, rfl, (by show (0 : Int) < 7919; decide), _, _, rfl, rfl, .inr ⟨by decide, by decide⟩, _, _, rfl, rfl, _, rfl, _, _, rfl, rfl, hn, ?_⟩
        rw [upd_upd]
        exact q _ _ (kd _) (dl _ _ hz (Int.emod_nonneg _ (by decide)) (Int.emod_lt_of_pos _ (by decide))) (Int.emod_nonneg _ (by omega)) (Int.emod_lt_of_pos _ hn)
end
theorem iT {c : Bool} {A B : Prop} (hc : c = true) (h : A) : if c = true then A else B := by
  rw [if_pos hc]
  exact h
theorem iF {c : Bool} {A B : Prop} (hc : c = false) (h : B) : if c = true then A else B := by
  rw [hc, if_neg Bool.false_ne_true]
  exact h
section
variable {K : PySem.W.Frag} {H H' : Hp}
theorem same_t {a : Addr} {xs : List V} (e : Same H H') (h : SqT K H a xs) : SqT K H' a xs := by
  rcases h with (h | ⟨o, h⟩) | h
  · exact .inl (.inl (e _ _ h))
  · exact .inl (.inr ⟨o, e _ _ h⟩)
  · exact .inr h
theorem tyL {a : Addr} {xs : List V} (h : SqL K H a xs) : TyX K H (.ref a) (.type "list") := by
  rcases h with (h | ⟨o, h⟩) | ⟨o, its, n, h1, h2, _⟩
  · exact .base (.lst h)
  · exact .base (.frz h)
  · exact .kList h1 h2
theorem tyT {a : Addr} {xs : List V} (h : SqT K H a xs) : TyX K H (.ref a) (.type "tuple") := by
  rcases h with (h | ⟨o, h⟩) | ⟨o, its, n, h1, h2, _⟩
  · exact .base (.tup h)
  · exact .fTuple h
  · exact .kTuple h1 h2
theorem kA_list : PySem.W.kitAny K (.type "list") [.type "list", .type "tuple"] = some true := kitAny_cons (b := true) (kit_ty (by decide +kernel)) (fun z => by cases z) (fun _ => rfl)
theorem kA_tuple : PySem.W.kitAny K (.type "tuple") [.type "list", .type "tuple"] = some true :=
  kitAny_cons (b := false) (kit_ty (by decide +kernel)) (fun _ => kitAny_cons (b := true) (kit_ty (by decide +kernel)) (fun z => by cases z) (fun _ => rfl)) (fun z => by cases z)
theorem kA_no {t : String} (h1 : kitB t "list" = some false) (h2 : kitB t "tuple" = some false) : PySem.W.kitAny K (.type t) [.type "list", .type "tuple"] = some false :=
  kitAny_cons (b := false) (kit_ty h1) (fun _ => kitAny_cons (b := false) (kit_ty h2) (fun _ => kitAny_nil) (fun z => by cases z)) (fun z => by cases z)
theorem pCls : Paired ClsV [.ty "list", .ty "tuple"] [.type "list", .type "tuple"] := .cons (.ty _) (.cons (.ty _) .nil)
/-- two values that read as the same data, at most n deep -/
inductive Lk (K : PySem.W.Frag) (H : Hp) : Nat → V → V → Prop
  | non {n : Nat} : Lk K H n .non .non
  | bl {n : Nat} (b : Bool) : Lk K H n (.bl b) (.bl b)
  | int {n : Nat} (i : Int) : Lk K H n (.int i) (.int i)
  | str {n : Nat} (s : Str) : Lk K H n (.str s) (.str s)
  | lst {n : Nat} {a b : Addr} {xs ys : List V} (ha : SqL K H a xs) (hb : SqL K H b ys) (hl : xs.length = ys.length) (h1 : ys.length ≤ 1000) (hi : ∀ (i : Nat) (x y : V), xs[i]? = some x → ys[i]? = some y → Lk K H n x y) : Lk K H (n + 1) (.ref a) (.ref b)
  | tup {n : Nat} {a b : Addr} {xs ys : List V} (ha : SqT K H a xs) (hb : SqT K H b ys) (hl : xs.length = ys.length) (h1 : ys.length ≤ 1000) (hi : ∀ (i : Nat) (x y : V), xs[i]? = some x → ys[i]? = some y → Lk K H n x y) : Lk K H (n + 1) (.ref a) (.ref b)
theorem Lk.mono {n : Nat} {x y : V} (e : Same H H') (h : Lk K H n x y) : Lk K H' n x y := by
  induction h with
  | non => exact .non
  | bl b => exact .bl b
  | int b => exact .int b
  | str b => exact .str b
  | lst ha hb hl h1 hi ih => exact .lst (e.seq ha) (e.seq hb) hl h1 ih
  | tup ha hb hl h1 hi ih => exact .tup (same_t e ha) (same_t e hb) hl h1 ih
end
section
variable {P : Program} {w : World} {K : PySem.W.Frag} {mg : Str → Option Value} {base : Heap}
def spLike (K : PySem.W.Frag) : Nat → Sp
  | 0 => fun _ _ _ _ => False
  | n + 1 => fun vs H Q _ => ∃ x y : V, vs = [x, y] ∧ Lk K H n x y ∧ ∀ H', Same H H' → Q (.bl true) H'
theorem scL : FnScope ["_law_found", "_law_due", "_law_k"] ["_law_found", "_law_due"] (defScope sLike) := ⟨rfl, rfl, rfl, by decide +kernel, rfl, by decide +kernel, by decide +kernel⟩
/-- the built-ins that the law's own defs ask for by name -/
structure Bi (mg : Str → Option Value) : Prop where
  isi : mg "isinstance" = none
  lst : mg "list" = none
  tup : mg "tuple" = none
  len : mg "len" = none
  all : mg "all" = none
  rng : mg "range" = none
  boo : mg "bool" = none
  int : mg "int" = none
  str : mg "str" = none
  abs : mg "abs" = none
theorem ok_like {f : Addr} {fd : FuncData} (F : Fun K "_law_like" "_law_like" sLike f fd) (bL : Binds K fd ["_law_found", "_law_due"] []) (gL : mg "_law_like" = some (.ref f)) (B : Bi mg) : ∀ n : Nat, FnOk P w K mg base CX0 (n + 1) f fd ["_law_found", "_law_due"] (spLike K n)
  | 0 => F.ok scL (fun vs H Q E h => h.elim) (fun cdv A outer s H vs Q E hr h => h.elim)
  | n + 1 => by
    have GL : FnOk P w K mg base CX0 (n + 1) f fd ["_law_found", "_law_due"] (spLike K n) := ok_like F bL gL B n
    refine F.ok scL (fun vs H Q E h => ?_) (fun cdv A outer s H vs Q E hr h => ?_)
    · obtain ⟨a, ns, rfl, _⟩ := h
      rfl
    · obtain ⟨x, y, rfl, hk, q⟩ := h
      refine ⟨_, pss_cons (ps_if (pt_val (pe_callB call_isiT (by rfl) B.isi (by decide +kernel) (pa_cons (pv 1) (pa_cons (pe_tup (pa_cons (pe_bltn (v := .ty "list") (by rfl) B.lst (by decide +kernel) rfl) (pa_cons (pe_bltn (v := .ty "tuple") (by rfl) B.tup (by decide +kernel) rfl) pa_nil))) pa_nil))))
          (pss_cons (ps_if (PW.pt (pw_or
                (pt_cmpR op_ne (pe_callB call_isi (by rfl) B.isi (by decide +kernel) (pa_cons (pv 0) (pa_cons (pe_bltn (v := .ty "list") (by rfl) B.lst (by decide +kernel) rfl) pa_nil))) (pe_callB call_isi (by rfl) B.isi (by decide +kernel) (pa_cons (pv 1) (pa_cons (pe_bltn (v := .ty "list") (by rfl) B.lst (by decide +kernel) rfl) pa_nil))) (nomark _))
                (pw_or1 (pt_cmpR op_ne (pe_callB call_isi (by rfl) B.isi (by decide +kernel) (pa_cons (pv 0) (pa_cons (pe_bltn (v := .ty "tuple") (by rfl) B.tup (by decide +kernel) rfl) pa_nil))) (pe_callB call_isi (by rfl) B.isi (by decide +kernel) (pa_cons (pv 1) (pa_cons (pe_bltn (v := .ty "tuple") (by rfl) B.tup (by decide +kernel) rfl) pa_nil))) (nomark _)))))
              (pss_one (ps_ret pe_bl)) pss_nil)
          (pss_one (ps_ret (pe_and (pe_cmpR op_eq (pe_callB call_len_seq (by rfl) B.len PySem.boot_len (pa_cons (pv 0) pa_nil)) (pe_callB call_len_seq (by rfl) B.len PySem.boot_len (pa_cons (pv 1) pa_nil)) (nomark _))
            (pe_one (pe_callB (cr_all rfl) (by rfl) B.all (by decide +kernel) (pa_cons
              (pe_lc (own := [("_law_k", 2)]) (g := gName 2) (tt := tYes) rfl scL.nd (pi_range1 (by rfl) B.rng (pa_cons (pe_callB call_len_seq (by rfl) B.len PySem.boot_len (pa_cons (pv 1) pa_nil)) pa_nil))
                (blkOk_by (own := [("_law_k", 2)]) (N := ["_law_found", "_law_due", "_law_k"]) (sc := defScope sLike) (by decide +kernel))
                (fun _ _ _ _ _ => pg_name (i := 2) scL.nd rfl (Or.inl rfl)) (fun _ _ _ _ _ => pts_nil)
                (fun _ _ _ _ _ => pe_call GL hr (by rfl) gL F.kp bL .nil pass0 (pa_cons (pe_ix (r := rIx K) ix_seq (pv 0) (pv 2) (fun _ _ => rfl)) (pa_cons (pe_ix (r := rIx K) ix_seq (pv 1) (pv 2) (fun _ _ => rfl)) pa_nil))))
              pa_nil))))))) pss_nil)
        (pss_cons (ps_if (PW.pt (pw_or (pt_cmpR op_isN (pv 1) pe_non (nomark _)) (pw_or1 (pt_cmpR op_isN (pv 0) pe_non (nomark _)))))
          (pss_one (ps_ret (pe_and (pe_cmpR op_isN (pv 1) pe_non (nomark _)) (pe_one (pe_cmpR op_isN (pv 0) pe_non (nomark _)))))) pss_nil)
        (pss_cons (ps_if (PW.pt (pw_or
                (pt_cmpR op_ne (pe_callB call_isi (by rfl) B.isi (by decide +kernel) (pa_cons (pv 0) (pa_cons (pe_bltn (v := .ty "bool") (by rfl) B.boo (by decide +kernel) rfl) pa_nil))) (pe_callB call_isi (by rfl) B.isi (by decide +kernel) (pa_cons (pv 1) (pa_cons (pe_bltn (v := .ty "bool") (by rfl) B.boo (by decide +kernel) rfl) pa_nil))) (nomark _))
                (pw_or1 (pt_cmpR op_ne (pe_callB call_isi (by rfl) B.isi (by decide +kernel) (pa_cons (pv 0) (pa_cons (pe_bltn (v := .ty "int") (by rfl) B.int (by decide +kernel) rfl) pa_nil))) (pe_callB call_isi (by rfl) B.isi (by decide +kernel) (pa_cons (pv 1) (pa_cons (pe_bltn (v := .ty "int") (by rfl) B.int (by decide +kernel) rfl) pa_nil))) (nomark _)))))
              (pss_one (ps_ret pe_bl)) pss_nil)
        (pss_one (ps_ret (pe_and (pe_cmpR op_eq (pe_callB call_isi (by rfl) B.isi (by decide +kernel) (pa_cons (pv 0) (pa_cons (pe_bltn (v := .ty "str") (by rfl) B.str (by decide +kernel) rfl) pa_nil))) (pe_callB call_isi (by rfl) B.isi (by decide +kernel) (pa_cons (pv 1) (pa_cons (pe_bltn (v := .ty "str") (by rfl) B.str (by decide +kernel) rfl) pa_nil))) (nomark _))
          (pe_one (pe_cmpR op_eq (pv 0) (pv 1) (nomark _)))))))), ?_⟩
      cases hk with
      | non =>
        refine ⟨_, rfl, (by show 2 ≤ sizeLine; decide), fun T hT => ⟨_, T, _, _, _, _, rfl, upd_same, pCls, .base .non, kA_no (by decide +kernel) (by decide +kernel), _, rfl, iteF ?_⟩⟩
        refine ⟨_, rfl, rfl, _, rfl, iT (decide_eq_true rfl) (iteT ?_)⟩
        refine ⟨_, rfl, rfl, _, rfl, iT (decide_eq_true rfl) ⟨_, rfl, rfl, ?_⟩⟩
        rw [decide_eq_true rfl]
        exact q _ (same_upd hT)
      | bl b =>
        refine ⟨_, rfl, (by show 2 ≤ sizeLine; decide), fun T hT => ⟨_, T, _, _, _, _, rfl, upd_same, pCls, .base (.bl b), kA_no (by decide +kernel) (by decide +kernel), _, rfl, iteF ?_⟩⟩
        refine ⟨_, rfl, rfl, _, rfl, iF rfl ⟨_, rfl, rfl, _, rfl, iteF ?_⟩⟩
        refine ⟨_, rfl, _, _, _, _, true, rfl, .ty _, .base (.bl b), kit_ty (by decide +kernel), _, rfl, _, _, _, _, true, rfl, .ty _, .base (.bl b), kit_ty (by decide +kernel), rfl, _, rfl, iF (by decide) ?_⟩
        refine ⟨_, rfl, _, _, _, _, true, rfl, .ty _, .base (.bl b), kit_ty (by decide +kernel), _, rfl, _, _, _, _, true, rfl, .ty _, .base (.bl b), kit_ty (by decide +kernel), rfl, _, rfl, iF (by decide) ?_⟩
        refine ⟨_, rfl, _, _, _, _, false, rfl, .ty _, .base (.bl b), kit_ty (by decide +kernel), _, rfl, _, _, _, _, false, rfl, .ty _, .base (.bl b), kit_ty (by decide +kernel), rfl, _, rfl, iT (by decide) ⟨_, rfl, _, rfl, rfl, ?_⟩⟩
        rw [decide_eq_true rfl]
        exact q _ (same_upd hT)
      | int b =>
        refine ⟨_, rfl, (by show 2 ≤ sizeLine; decide), fun T hT => ⟨_, T, _, _, _, _, rfl, upd_same, pCls, .base (.int b), kA_no (by decide +kernel) (by decide +kernel), _, rfl, iteF ?_⟩⟩
        refine ⟨_, rfl, rfl, _, rfl, iF rfl ⟨_, rfl, rfl, _, rfl, iteF ?_⟩⟩
        refine ⟨_, rfl, _, _, _, _, false, rfl, .ty _, .base (.int b), kit_ty (by decide +kernel), _, rfl, _, _, _, _, false, rfl, .ty _, .base (.int b), kit_ty (by decide +kernel), rfl, _, rfl, iF (by decide) ?_⟩
        refine ⟨_, rfl, _, _, _, _, true, rfl, .ty _, .base (.int b), kit_ty (by decide +kernel), _, rfl, _, _, _, _, true, rfl, .ty _, .base (.int b), kit_ty (by decide +kernel), rfl, _, rfl, iF (by decide) ?_⟩
        refine ⟨_, rfl, _, _, _, _, false, rfl, .ty _, .base (.int b), kit_ty (by decide +kernel), _, rfl, _, _, _, _, false, rfl, .ty _, .base (.int b), kit_ty (by decide +kernel), rfl, _, rfl, iT (by decide) ⟨_, rfl, _, rfl, rfl, ?_⟩⟩
        rw [decide_eq_true rfl]
        exact q _ (same_upd hT)
      | str b =>
        refine ⟨_, rfl, (by show 2 ≤ sizeLine; decide), fun T hT => ⟨_, T, _, _, _, _, rfl, upd_same, pCls, .base (.str b), kA_no (by decide +kernel) (by decide +kernel), _, rfl, iteF ?_⟩⟩
        refine ⟨_, rfl, rfl, _, rfl, iF rfl ⟨_, rfl, rfl, _, rfl, iteF ?_⟩⟩
        refine ⟨_, rfl, _, _, _, _, false, rfl, .ty _, .base (.str b), kit_ty (by decide +kernel), _, rfl, _, _, _, _, false, rfl, .ty _, .base (.str b), kit_ty (by decide +kernel), rfl, _, rfl, iF (by decide) ?_⟩
        refine ⟨_, rfl, _, _, _, _, false, rfl, .ty _, .base (.str b), kit_ty (by decide +kernel), _, rfl, _, _, _, _, false, rfl, .ty _, .base (.str b), kit_ty (by decide +kernel), rfl, _, rfl, iF (by decide) ?_⟩
        refine ⟨_, rfl, _, _, _, _, true, rfl, .ty _, .base (.str b), kit_ty (by decide +kernel), _, rfl, _, _, _, _, true, rfl, .ty _, .base (.str b), kit_ty (by decide +kernel), rfl, _, rfl, iT (by decide) ⟨_, rfl, _, rfl, rfl, ?_⟩⟩
        rw [decide_eq_true rfl]
        exact q _ (same_upd hT)
      | lst ha hb hl h1 hi =>
        rename_i n a b xs ys
        refine ⟨_, rfl, (by show 2 ≤ sizeLine; decide), fun T hT => ?_⟩
        have s1 := same_upd (o := .tup [V.ty "list", V.ty "tuple"]) hT
        have hA := Same.seq s1 ha
        have hB := Same.seq s1 hb
        refine ⟨_, T, _, _, _, _, rfl, upd_same, pCls, tyL hB, kA_list, _, rfl, iteT ?_⟩
        refine ⟨_, rfl, _, _, _, _, true, rfl, .ty _, tyL hA, kit_ty (by decide +kernel), _, rfl, _, _, _, _, true, rfl, .ty _, tyL hB, kit_ty (by decide +kernel), rfl, _, rfl, iF (by decide) ?_⟩
        refine ⟨_, rfl, _, _, _, _, false, rfl, .ty _, tyL hA, kit_ty (by decide +kernel), _, rfl, _, _, _, _, false, rfl, .ty _, tyL hB, kit_ty (by decide +kernel), rfl, _, rfl, iF (by decide) ?_⟩
        refine ⟨_, rfl, a, xs, rfl, .inl hA, _, rfl, b, ys, rfl, .inl hB, rfl, _, rfl, iT (by rw [hl]; exact decide_eq_true rfl) ?_⟩
        refine ⟨_, rfl, b, ys, rfl, .inl hB, (ys.length : Int), rfl, by omega, by omega, fun D hD => ?_⟩
        refine lc_range (lo := 0) (n := ys.length) (fun i H' => Same H H' ∧ H' D = some (.lst (List.replicate i (.bl true)))) ?_ ?_ ?_
        · have s2 := same_upd (o := .lst []) hD
          exact ⟨s1.trans s2, upd_same⟩
        · rintro i H3 hlt ⟨s3, hD3⟩
          have hA3 := Same.seq s3 ha
          have hB3 := Same.seq s3 hb
          have hlt2 : i < xs.length := by omega
          have g1 : xs[i]? = some xs[i] := List.getElem?_eq_getElem hlt2
          have g2 : ys[i]? = some ys[i] := List.getElem?_eq_getElem hlt
          refine ⟨rfl, ?_⟩
          refine ⟨_, rfl, _, rfl, .inl ⟨a, xs, _, _, rfl, rfl, hA3, at_of (j := i) (by omega) g1, _, rfl, _, rfl, .inl ⟨b, ys, _, _, rfl, rfl, hB3, at_of (j := i) (by omega) g2, _, _, rfl, (hi i _ _ g1 g2).mono s3, fun H4 s4 => ?_⟩⟩⟩
          refine ⟨_, s4 _ _ hD3, ?_, ?_⟩
          · rw [List.length_replicate]
            exact small1000 (by omega)
          · have nD : H D = none := s1.free hD
            refine ⟨fun b' o' e => ?_, ?_⟩
            · rw [upd_ne (ne_of_none e nD)]
              exact s4 _ _ (s3 _ _ e)
            · rw [upd_same, List.replicate_succ']
        · rintro H3 ⟨s3, hD3⟩
          refine ⟨D, List.replicate ys.length true, rfl, SqL.of (by rw [hD3, List.map_replicate]), ?_⟩
          rw [show (List.replicate ys.length true).all id = true by simp]
          exact q _ s3
      | tup ha hb hl h1 hi =>
        rename_i n a b xs ys
        refine ⟨_, rfl, (by show 2 ≤ sizeLine; decide), fun T hT => ?_⟩
        have s1 := same_upd (o := .tup [V.ty "list", V.ty "tuple"]) hT
        have hA := same_t s1 ha
        have hB := same_t s1 hb
        refine ⟨_, T, _, _, _, _, rfl, upd_same, pCls, tyT hB, kA_tuple, _, rfl, iteT ?_⟩
        refine ⟨_, rfl, _, _, _, _, false, rfl, .ty _, tyT hA, kit_ty (by decide +kernel), _, rfl, _, _, _, _, false, rfl, .ty _, tyT hB, kit_ty (by decide +kernel), rfl, _, rfl, iF (by decide) ?_⟩
        refine ⟨_, rfl, _, _, _, _, true, rfl, .ty _, tyT hA, kit_ty (by decide +kernel), _, rfl, _, _, _, _, true, rfl, .ty _, tyT hB, kit_ty (by decide +kernel), rfl, _, rfl, iF (by decide) ?_⟩
        refine ⟨_, rfl, a, xs, rfl, .inr hA, _, rfl, b, ys, rfl, .inr hB, rfl, _, rfl, iT (by rw [hl]; exact decide_eq_true rfl) ?_⟩
        refine ⟨_, rfl, b, ys, rfl, .inr hB, (ys.length : Int), rfl, by omega, by omega, fun D hD => ?_⟩
        refine lc_range (lo := 0) (n := ys.length) (fun i H' => Same H H' ∧ H' D = some (.lst (List.replicate i (.bl true)))) ?_ ?_ ?_
        · have s2 := same_upd (o := .lst []) hD
          exact ⟨s1.trans s2, upd_same⟩
        · rintro i H3 hlt ⟨s3, hD3⟩
          have hA3 := same_t s3 ha
          have hB3 := same_t s3 hb
          have hlt2 : i < xs.length := by omega
          have g1 : xs[i]? = some xs[i] := List.getElem?_eq_getElem hlt2
          have g2 : ys[i]? = some ys[i] := List.getElem?_eq_getElem hlt
          refine ⟨rfl, ?_⟩
          refine ⟨_, rfl, _, rfl, .inr <| .inl ⟨a, xs, _, _, rfl, rfl, hA3, at_of (j := i) (by omega) g1, _, rfl, _, rfl, .inr <| .inl ⟨b, ys, _, _, rfl, rfl, hB3, at_of (j := i) (by omega) g2, _, _, rfl, (hi i _ _ g1 g2).mono s3, fun H4 s4 => ?_⟩⟩⟩
          refine ⟨_, s4 _ _ hD3, ?_, ?_⟩
          · rw [List.length_replicate]
            exact small1000 (by omega)
          · have nD : H D = none := s1.free hD
            refine ⟨fun b' o' e => ?_, ?_⟩
            · rw [upd_ne (ne_of_none e nD)]
              exact s4 _ _ (s3 _ _ e)
            · rw [upd_same, List.replicate_succ']
        · rintro H3 ⟨s3, hD3⟩
          refine ⟨D, List.replicate ys.length true, rfl, SqL.of (by rw [hD3, List.map_replicate]), ?_⟩
          rw [show (List.replicate ys.length true).all id = true by simp]
          exact q _ s3
end
section
variable {P : Program} {w : World} {K : PySem.W.Frag} {mg : Str → Option Value} {base : Heap}
/-! _law_of -/
def spOf : Sp := fun vs H Q _ => ∃ (p l a : Addr) (xs : List V), vs = [.ref p, .ref a] ∧ Deal H p l ∧ H a = some (.lst xs) ∧ Nd (.lst xs) ∧ 0 < xs.length ∧ xs.length ≤ 1000 ∧
  ∀ (H' : Hp) (x : V), x ∈ xs → Kp H H' → Deal H' p l → Q x H'
theorem scO : FnScope ["_law_deal_here", "_law_some"] ["_law_deal_here", "_law_some"] (defScope sOf) := ⟨rfl, rfl, rfl, by decide +kernel, rfl, by decide +kernel, by decide +kernel⟩
theorem ok_of {f fK : Addr} {fd fdK : FuncData} {k : Nat} (F : Fun K "_law_of" "_law_of" sOf f fd) (FK : Fun K "_law_pick" "_law_pick" sPick fK fdK) (bK : Binds K fdK ["_law_deal_here", "_law_many"] []) (gK : mg "_law_pick" = some (.ref fK)) (B : Bi mg) :
    FnOk P w K mg base CX0 (k + 2) f fd ["_law_deal_here", "_law_some"] spOf := by
  have GK : FnOk P w K mg base CX0 (k + 1) fK fdK ["_law_deal_here", "_law_many"] spPick := ok_pick FK B.len
  refine F.ok scO (fun vs H Q E h => ?_) (fun cdv A outer s H vs Q E hr h => ?_)
  · obtain ⟨a, l, ns, xs, rfl, _⟩ := h
    rfl
  · obtain ⟨p, l, a, xs, rfl, dl, hS, nd, h0, h1, q⟩ := h
    refine ⟨_, pss_one (ps_ret (pe_ix ix_list (pv 1) (pe_call GK hr (by rfl) gK FK.kp bK .nil pass0 (pa_cons (pv 0) (pa_cons (pe_callB call_len_seq (by rfl) B.len PySem.boot_len (pa_cons (pv 1) pa_nil)) pa_nil))) (fun _ _ => rfl))), ?_⟩
    refine ⟨_, rfl, _, rfl, _, rfl, a, xs, rfl, .inl (SqL.of hS), p, l, (xs.length : Int), rfl, dl, by omega, lg (b := 10) (by omega) (by decide) (by decide), fun H' r kp dl' r0 r1 => ?_⟩
    obtain ⟨j, rfl⟩ := Int.eq_ofNat_of_zero_le r0
    have hj : j < xs.length := by omega
    refine ⟨a, xs, _, _, rfl, rfl, SqL.of (kp.keep _ _ nd hS), atI_nat (j := j) (List.getElem?_eq_getElem hj), ?_⟩
    exact q H' _ (List.getElem_mem hj) kp dl'
end
section
variable {K : PySem.W.Frag} {H H' : Hp}
theorem pr_get {R : V → V → Prop} {xs ys : List V} (h : Paired R xs ys) : ∀ (i : Nat) (x y : V), xs[i]? = some x → ys[i]? = some y → R x y := by
  induction h with
  | nil =>
    intro i x y h
    cases h
  | cons a r ih =>
    intro i x y h1 h2
    cases i with
    | zero =>
      cases Option.some.inj h1
      cases Option.some.inj h2
      exact a
    | succ j => exact ih j x y h1 h2
theorem lk_list {n : Nat} {a b : Addr} {xs ys : List V} (ha : SqL K H a xs) (hb : SqL K H b ys) (h : Paired (Lk K H n) xs ys) (hl : ys.length ≤ 1000) : Lk K H (n + 1) (.ref a) (.ref b) := .lst ha hb h.length hl (pr_get h)
theorem lk_tup {n : Nat} {a b : Addr} {xs ys : List V} (ha : SqT K H a xs) (hb : SqT K H b ys) (h : Paired (Lk K H n) xs ys) (hl : ys.length ≤ 1000) : Lk K H (n + 1) (.ref a) (.ref b) := .tup ha hb h.length hl (pr_get h)
theorem lk_ints {n : Nat} : ∀ ns : List Int, Paired (Lk K H n) (ns.map V.int) (ns.map V.int)
  | [] => .nil
  | i :: r => .cons (.int i) (lk_ints r)
end
end Hl

set_option Elab.async false
set_option linter.all false
set_option maxRecDepth 100000
set_option maxHeartbeats 4000000
namespace Hl
open PySem PySem.Spec PyProof.Rows L2
/-! xs[i] op= e: the read, i 0 or more -/
def rIxP (K : PySem.W.Frag) : R2 := fun x y H Q => ∃ (p : Addr) (xs : List V) (i : Nat) (z : V), x = .ref p ∧ y = .int i ∧ SqL K H p xs ∧ xs[i]? = some z ∧ Q z H
theorem get_list {X : Cx} : PGet X (rIxP X.K) := by
  intro pins s σ H x y v u Q I rx ry h
  obtain ⟨p, xs, i, z, rfl, rfl, hq, he, q⟩ := h
  cases (show v = Value.ref p from rx)
  obtain ⟨t, rfl⟩ := (show ∃ t, u = Value.int i t from ry)
  obtain ⟨its, r, pl, hz⟩ := I.list hq
  obtain ⟨w, ew, rw'⟩ := r.get he
  have hl := r.length
  have hn := line63
  have hi : i < its.length := (List.getElem?_eq_some_iff.mp ew).1
  exact wpAny_getItem_list pl.isList (by omega) (by omega) (by simpa using ew) ⟨z, H, I, rw', q⟩
end Hl

set_option Elab.async false
set_option linter.all false
set_option maxRecDepth 100000
set_option maxHeartbeats 4000000
namespace Hl
open PySem PySem.Spec PyProof.Rows L2
abbrev sTimes : Stmt := topS 35
abbrev sWeight : Stmt := topS 36
theorem nd_frz {o : Obj} {u : HO} : Nd (.frz o u) := fun _ _ _ _ _ h => by cases h
def TupN (H : Hp) (a : Addr) (xs : List V) : Prop := ∃ o : Obj, o.dict = none ∧ H a = some (.frz o (.tup xs))
theorem TupN.rd {H : Hp} {a : Addr} {xs : List V} (h : TupN H a xs) : Rd H a (.tup xs) := let ⟨o, _, h⟩ := h; .inr ⟨o, h⟩
theorem TupN.same {H H' : Hp} {a : Addr} {xs : List V} (k : Same H H') (h : TupN H a xs) : TupN H' a xs := let ⟨o, d, h⟩ := h; ⟨o, d, k _ _ h⟩
theorem TupN.kp {H H' : Hp} {a : Addr} {xs : List V} (k : Kp H H') (h : TupN H a xs) : TupN H' a xs := let ⟨o, d, h⟩ := h; ⟨o, d, k.keep _ _ nd_frz h⟩
/-- tuple(x): a new one has no dict -/
def rTupF (K : PySem.W.Frag) : List V → Hp → VK → Prop := fun xs H Q => ∃ p ys, xs = [.ref p] ∧ ((SqL K H p ys ∧ ∀ (l : Addr) (o : Obj), H l = none → o.dict = none → Q (.ref l) (upd H l (.frz o (.tup ys)))) ∨ (SqT K H p ys ∧ Q (.ref p) H))
theorem call_tupF {X : Cx} : CallR X (.type "tuple") (rTupF X.K) := by
  intro pins s σ H xs us Q I r h
  obtain ⟨p, ys, rfl, h⟩ := h
  obtain ⟨u, rfl, rx⟩ := vals1 r
  cases rx
  rcases h with ⟨hq, q⟩ | ⟨hq, q⟩
  · obtain ⟨its, r', pl, hz⟩ := I.list hq
    have hlen := r'.length
    refine call_tuple_list pl.isList (fun h' kp => ?_) (by simp only [List.size_toArray] <;> omega)
    have I1 : Inv X pins σ H { s with heap := h' } := I.kept (t' := s.toks) kp
    have I2 : Inv X pins σ (upd H h'.objs.size (.frz { cls := .type "tuple", data := .seq its.toArray } (.tup ys))) { s with heap := h'.push { cls := .type "tuple", data := .seq its.toArray } } :=
      I1.laid (t' := s.toks) (fun b o e => Heap.get?_push_of_some _ e) (Nat.le_refl _) ⟨Heap.get?_push_size _ rfl, hz, its, r', IsTup.new _ _⟩
    exact ⟨.ref h'.objs.size, _, I2, rfl, q _ _ (I1.hok.fresh (Nat.le_refl _)) rfl⟩
  · obtain ⟨its, r', pl, hz⟩ := I.tuple hq
    exact call_tuple_same pl ⟨.ref p, H, I, rfl, q⟩
/-- a rule as data -/
structure Rl where
  e : Int
  a : Int
  m : Option Int
  ws : List (Str × Int)
  gs : List (Str × Int)
def moV : Option Int → V
  | none => .non
  | some k => .int k
def PairAt (H : Hp) (v : V) (p : Str × Int) : Prop := ∃ a, v = .ref a ∧ H a = some (.tup [.str p.1, .int p.2])
def PairsAt (H : Hp) (t : Addr) (ps : List (Str × Int)) : Prop := ∃ vs, TupN H t vs ∧ Paired (PairAt H) vs ps
def RuleAt (H : Hp) (v : V) (r : Rl) : Prop := ∃ t wt gt, v = .ref t ∧ H t = some (.tup [.str "each", .int r.e, .int r.a, .ref wt, .ref gt, moV r.m]) ∧ PairsAt H wt r.ws ∧ PairsAt H gt r.gs
theorem paired_mono {α β : Type} {R S : α → β → Prop} (h : ∀ a b, R a b → S a b) : ∀ {xs : List α} {ys : List β}, Paired R xs ys → Paired S xs ys
  | _, _, .nil => .nil
  | _, _, .cons a r => .cons (h _ _ a) (paired_mono h r)
theorem paired_get {α β : Type} {R : α → β → Prop} : ∀ {xs : List α} {ys : List β} (_ : Paired R xs ys) (i : Nat) (x : α), xs[i]? = some x → ∃ y, ys[i]? = some y ∧ R x y
  | _, _, .nil, i, x, e => by cases e
  | _, _, .cons a r, 0, x, e => by
    cases Option.some.inj e
    exact ⟨_, rfl, a⟩
  | _, _, .cons a r, i + 1, x, e => paired_get r i x e
theorem paired_get2 {α β : Type} {R : α → β → Prop} : ∀ {xs : List α} {ys : List β} (_ : Paired R xs ys) (i : Nat) (y : β), ys[i]? = some y → ∃ x, xs[i]? = some x ∧ R x y
  | _, _, .nil, i, x, e => by cases e
  | _, _, .cons a r, 0, x, e => by
    cases Option.some.inj e
    exact ⟨_, rfl, a⟩
  | _, _, .cons a r, i + 1, x, e => paired_get2 r i x e
section
variable {H H' : Hp}
theorem PairAt.kp {v : V} {p : Str × Int} (k : Kp H H') (h : PairAt H v p) : PairAt H' v p := by
  obtain ⟨a, e, h⟩ := h
  exact ⟨a, e, k.keep _ _ nd_tup h⟩
theorem PairsAt.kp {t : Addr} {p : List (Str × Int)} (k : Kp H H') (h : PairsAt H t p) : PairsAt H' t p := by
  obtain ⟨vs, e, h⟩ := h
  exact ⟨vs, e.kp k, paired_mono (fun _ _ => PairAt.kp k) h⟩
theorem RuleAt.kp {v : V} {r : Rl} (k : Kp H H') (h : RuleAt H v r) : RuleAt H' v r := by
  obtain ⟨t, wt, gt, e, h, h1, h2⟩ := h
  exact ⟨t, wt, gt, e, k.keep _ _ nd_tup h, h1.kp k, h2.kp k⟩
end
def tm (r : Rl) (x : Int) : Int := timesF r.e r.a r.m x
section
variable {P : Program} {w : World} {K : PySem.W.Frag} {mg : Str → Option Value} {base : Heap}
structure Bj (mg : Str → Option Value) : Prop where
  min : mg "min" = none
  max : mg "max" = none
  sum : mg "sum" = none
  zip : mg "zip" = none
  sorted : mg "sorted" = none
/-! _law_times_of -/
def spTimes : Sp := fun vs H Q _ => ∃ (v : V) (r : Rl) (x : Int), vs = [v, .int x] ∧ RuleAt H v r ∧ (1 ≤ r.e ∧ r.e ≤ 6) ∧ Q (.int (tm r x)) H
theorem scTi : FnScope ["_law_rule", "_law_come", "_law_found"] ["_law_rule", "_law_come"] (defScope sTimes) := ⟨rfl, rfl, rfl, by decide +kernel, rfl, by decide +kernel, by decide +kernel⟩
theorem ok_times {f : Addr} {fd : FuncData} {k : Nat} (F : Fun K "_law_times_of" "_law_times_of" sTimes f fd) (B : Bj mg) : FnOk P w K mg base CX0 (k + 1) f fd ["_law_rule", "_law_come"] spTimes := by
  refine F.ok scTi (fun vs H Q E h => ?_) (fun cdv A outer s H vs Q E hr h => ?_)
  · obtain ⟨v, r, x, rfl, _⟩ := h
    rfl
  · obtain ⟨v, r, x, rfl, ⟨t, wt, gt, rfl, ht, _, _⟩, oe, q⟩ := h
    refine ⟨_, pss_cons (ps_set (i := 2) scTi.nd rfl (.inl rfl) (pe_op op_fdiv (pe_callB (call_max2 rfl) (by rfl) B.max (by decide +kernel) (pa_cons pe_int (pa_cons (pe_op op_sub (pv 1) (pe_ix ix_tup (pv 0) pe_int (fun _ _ => rfl))) pa_nil))) (pe_ix ix_tup (pv 0) pe_int (fun _ _ => rfl))))
      (pss_one (ps_ret (pe_ifExp (pt_cmpR op_isN (pe_ix ix_tup (pv 0) pe_int (fun _ _ => rfl)) pe_non (nomark _)) (pv 2) (pe_callB (call_min2 rfl) (by rfl) B.min (by decide +kernel) (pa_cons (pv 2) (pa_cons (pe_ix ix_tup (pv 0) pe_int (fun _ _ => rfl)) pa_nil)))))), ?_⟩
    obtain ⟨re, ra, rm, rws, rgs⟩ := r
    obtain ⟨e1, e4⟩ := oe
    dsimp only at *
    refine ⟨_, rfl, _, rfl, t, _, 2, _, rfl, rfl, SqT.of ht, atI_nat (j := 2) rfl, _, _, rfl, rfl, _, _, rfl, _, rfl, t, _, 1, _, rfl, rfl, SqT.of ht, atI_nat (j := 1) rfl, _, _, rfl, rfl, ⟨by omega, by omega⟩, ?_⟩
    refine ⟨_, rfl, t, _, 5, _, rfl, rfl, SqT.of ht, atI_nat (j := 5) rfl, rfl, _, rfl, ?_⟩
    cases rm with
    | none => exact iT rfl ⟨_, rfl, q⟩
    | some kk => exact iF rfl ⟨_, rfl, _, rfl, t, _, 5, _, rfl, rfl, SqT.of ht, atI_nat (j := 5) rfl, _, _, rfl, q⟩
/-! _law_weight -/
def wt (r : Rl) (n : Str) : Int := ((r.ws.filter fun p => decide (p.1 = n)).map (·.2)).sum
def spWeight : Sp := fun vs H Q _ => ∃ (v : V) (r : Rl) (n : Str), vs = [v, .str n] ∧ RuleAt H v r ∧ r.ws.length ≤ 3 ∧ ∀ H', Same H H' → Q (.int (wt r n)) H'
theorem scWe : FnScope ["_law_rule", "_law_name", "_law_one", "_law_weight_here"] ["_law_rule", "_law_name"] (defScope sWeight) := ⟨rfl, rfl, rfl, by decide +kernel, rfl, by decide +kernel, by decide +kernel⟩
theorem ok_weight {f : Addr} {fd : FuncData} {k : Nat} (F : Fun K "_law_weight" "_law_weight" sWeight f fd) (B : Bj mg) : FnOk P w K mg base CX0 (k + 1) f fd ["_law_rule", "_law_name"] spWeight := by
  refine F.ok scWe (fun vs H Q E h => ?_) (fun cdv A outer s H vs Q E hr h => ?_)
  · obtain ⟨v, r, x, rfl, _⟩ := h
    rfl
  · obtain ⟨v, r, n, rfl, ⟨t, wt', gt, rfl, ht, ⟨ps, hps, hp⟩, _⟩, hl, q⟩ := h
    refine ⟨_, pss_one (ps_ret (pe_callB (cr_sum rfl) (by rfl) B.sum (by decide +kernel) (pa_cons
      (pe_lc (own := [("_law_one", 2), ("_law_weight_here", 3)]) (g := gTup K 2 (gCons (gName 2) (gCons (gName 3) gNil))) (tt := tTest (tOp rEq (tVar 2) (tVar 1))) rfl scWe.nd (pi_tup (pe_ix ix_tup (pv 0) pe_int (fun _ _ => rfl)))
        (blkOk_by (own := [("_law_one", 2), ("_law_weight_here", 3)]) (N := ["_law_rule", "_law_name", "_law_one", "_law_weight_here"]) (sc := defScope sWeight) (by decide +kernel))
        (fun _ _ _ _ _ => pg_tup rfl (pgs_cons (pg_name (i := 2) scWe.nd rfl (Or.inl rfl)) (pgs_cons (pg_name (i := 3) scWe.nd rfl (Or.inl rfl)) pgs_nil)))
        (fun _ _ _ _ _ => pts_one (pt_cmpR op_eq (pv 2) (pv 1) (nomark _)))
        (fun _ _ _ _ _ => pv 3)) pa_nil))), ?_⟩
    refine ⟨_, rfl, t, _, 3, _, rfl, rfl, SqT.of ht, atI_nat (j := 3) rfl, wt', rfl, ⟨_, (show SqT K _ wt' ps from .inl hps.rd)⟩, fun D hD => ?_⟩
    have lp := hp.length
    refine lc_tup (K := K) (a := wt') (xs := ps) (fun i H' => Same H H' ∧ H' D = some (.lst ((((r.ws.take i).filter fun p => decide (p.1 = n)).map (·.2)).map V.int))) ⟨same_upd hD, upd_same⟩ (fun i H' _ ⟨sm, _⟩ => same_t sm ((show SqT K _ wt' ps from .inl hps.rd))) ?_ ?_
    · rintro i x H' hx ⟨sm, hD'⟩
      obtain ⟨p, hpi, a, rfl, ha⟩ := paired_get hp i x hx
      refine ⟨a, _, rfl, SqT.of (sm _ _ ha), rfl, _, _, rfl, _, _, rfl, rfl, ?_⟩
      refine ⟨rfl, ?_⟩
      refine ⟨_, rfl, _, rfl, rfl, _, rfl, ite2 (fun e => ?_) (fun e => ?_)⟩
      · have en : p.1 = n := V.str.inj (of_decide_eq_true e)
        refine ⟨_, rfl, _, hD', ?_, ?_⟩
        · rw [List.length_map, List.length_map]
          refine small1000 (Nat.le_trans (List.length_filter_le _ _) ?_)
          rw [List.length_take]
          omega
        · refine ⟨fun b o eb => ?_, ?_⟩
          · rw [upd_ne (ne_of_none eb hD)]
            exact sm _ _ eb
          · rw [upd_same, List.take_add_one, hpi]
            simp [en]
      · have en : ¬ p.1 = n := fun z => e (by rw [z]; exact decide_eq_true rfl)
        refine ⟨sm, ?_⟩
        rw [hD', List.take_add_one, hpi]
        simp [en]
    · rintro H' ⟨sm, hD'⟩
      rw [lp, List.take_length] at hD'
      exact ⟨D, _, rfl, SqL.of hD', q H' sm⟩
end
end Hl

set_option Elab.async false
set_option linter.all false
set_option maxRecDepth 100000
set_option maxHeartbeats 4000000
namespace Hl
open PySem PySem.Spec PyProof.Rows L2
/-- the place of a name -/
def ixOf (outs : List Str) (n : Str) : Nat := outs.findIdx fun s => decide (s = n)
theorem ixOf_lt {outs : List Str} {n : Str} (h : n ∈ outs) : ixOf outs n < outs.length := List.findIdx_lt_length_of_exists ⟨n, h, decide_eq_true rfl⟩
theorem ixOf_get {outs : List Str} {n : Str} (h : n ∈ outs) : outs[ixOf outs n]? = some n := by
  have hl := ixOf_lt h
  rw [List.getElem?_eq_getElem hl]
  have := List.findIdx_getElem (xs := outs) (p := fun s => decide (s = n)) (w := hl)
  exact congrArg some (of_decide_eq_true this)
theorem ixOf_no {outs : List Str} {n : Str} {m : Nat} {s : Str} (h : m < ixOf outs n) (e : outs[m]? = some s) : s ≠ n := by
  obtain ⟨hl, rfl⟩ := List.getElem?_eq_some_iff.mp e
  have := List.not_of_lt_findIdx (xs := outs) (p := fun s => decide (s = n)) h
  intro z
  simp [z] at this
theorem map_str_get {outs : List Str} {i : Nat} {v : V} (h : (outs.map V.str)[i]? = some v) : ∃ s, outs[i]? = some s ∧ v = .str s := by
  rw [List.getElem?_map] at h
  cases e : outs[i]? with
  | none =>
    rw [e] at h
    cases h
  | some s =>
    rw [e] at h
    exact ⟨s, rfl, (Option.some.inj h).symm⟩
theorem map_int_get {outs : List Int} {i : Nat} {v : V} (h : (outs.map V.int)[i]? = some v) : ∃ s, outs[i]? = some s ∧ v = .int s := by
  rw [List.getElem?_map] at h
  cases e : outs[i]? with
  | none =>
    rw [e] at h
    cases h
  | some s =>
    rw [e] at h
    exact ⟨s, rfl, (Option.some.inj h).symm⟩
theorem strs_flat (ns : List Str) : (ns.map V.str).all flatV = true := by
  rw [List.all_map]
  exact List.all_eq_true.mpr fun _ _ => rfl
theorem ints_flat (ns : List Int) : (ns.map V.int).all flatV = true := by
  rw [List.all_map]
  exact List.all_eq_true.mpr fun _ _ => rfl
def addAt (acc : List Int) (j : Nat) (d : Int) : List Int := acc.set j ((acc[j]?).getD 0 + d)
theorem rep_one (n : Nat) : (List.replicate n [V.int 0]).flatten = (List.replicate n (0 : Int)).map V.int := by
  induction n with
  | zero => rfl
  | succ n ih =>
    rw [List.replicate_succ, List.flatten_cons, ih, List.replicate_succ]
    rfl
end Hl

set_option Elab.async false
set_option linter.all false
set_option maxRecDepth 100000
set_option maxHeartbeats 4000000
namespace Hl
open PySem PySem.Spec PyProof.Rows L2
theorem ints_lay : ∀ s : List Int, PyData.canLayAll0 (s.map PyData.int) = true
  | [] => by simp [PyData.canLayAll0]
  | x :: s => by simp [PyData.canLayAll0, PyData.canLay0, ints_lay s]
theorem ints_depth : ∀ s : List Int, PyData.depthAll (s.map PyData.int) ≤ 1
  | [] => by simp [PyData.depthAll]
  | x :: s => by
    have := ints_depth s
    simp only [List.map_cons, PyData.depthAll, PyData.depth]
    omega
theorem ints_eqv : ∀ a b : List Int, PyData.eqvAll (a.map PyData.int) (b.map PyData.int) = decide (a = b)
  | [], [] => by simp [PyData.eqvAll]
  | [], y :: b => by simp [PyData.eqvAll]
  | x :: a, [] => by simp [PyData.eqvAll]
  | x :: a, y :: b => by
    have ih := ints_eqv a b
    simp only [List.map_cons, PyData.eqvAll, PyData.eqv, ih]
    by_cases h : x = y
    · subst h
      simp
    · simp [h]
theorem lc_zip {K : PySem.W.Frag} {a b : Addr} {xs ys : List V} {g : TG} {tt : TT} {te : TE} {vs : List Nat} {σ : L2.St} {H1 : Hp} {D : Addr} {Qd : Hp → Prop} (hl : xs.length = ys.length) (Pv : Nat → Hp → Prop) (h0 : Pv 0 (upd H1 D (.lst [])))
    (hq : ∀ i H, Pv i H → SqL K H a xs ∧ SqL K H b ys)
    (hs : ∀ (i : Nat) (x y : V) (T : Addr) (H : Hp), xs[i]? = some x → ys[i]? = some y → Pv i H → H T = none → g (.ref T) (wipe σ vs) (upd H T (.tup [x, y])) fun σ2 H2 => wipe σ2 vs = wipe σ vs ∧ tt σ2 H2 fun b H3 =>
      if b = true then te σ2 H3 fun y H4 => ∃ acc, H4 D = some (.lst acc) ∧ acc.length < sizeLine ∧ Pv (i + 1) (upd H4 D (.lst (acc ++ [y]))) else Pv (i + 1) H3) (hd : ∀ H, Pv xs.length H → Qd H) :
    ∃ W : Nat → Nat → Hp → Prop, (∃ m, W 0 m (upd H1 D (.lst []))) ∧ ∀ i m H, W i m H →
      ((Itz K a b).stop i H ∧ Qd H) ∨ ((Itz K a b).go i H ∧ ∃ Nx : Hp → Prop, (∀ H', Nx H' → ∃ m', m' < m ∧ W (i + 1) m' H') ∧ ∀ x H', (Itz K a b).yld i H x H' → g x (wipe σ vs) H' fun σ2 H2 => wipe σ2 vs = wipe σ vs ∧ tt σ2 H2 fun b H3 =>
        if b = true then te σ2 H3 fun y H4 => ∃ acc, H4 D = some (.lst acc) ∧ acc.length < sizeLine ∧ Nx (upd H4 D (.lst (acc ++ [y]))) else Nx H3) := by
  refine ⟨fun i m H => m = xs.length - i ∧ i ≤ xs.length ∧ Pv i H, ⟨xs.length, rfl, Nat.zero_le _, h0⟩, ?_⟩
  rintro i m H ⟨rfl, hi, p⟩
  obtain ⟨qx, qy⟩ := hq i H p
  by_cases hlt : i < xs.length
  · refine .inr ⟨⟨xs, ys, _, _, qx, qy, List.getElem?_eq_getElem hlt, List.getElem?_eq_getElem (show i < ys.length by omega)⟩, Pv (i + 1), fun H' p' => ⟨xs.length - (i + 1), by omega, rfl, hlt, p'⟩, ?_⟩
    rintro v H' ⟨T, x, y, rfl, hT, rfl, f1, f2⟩
    exact hs i x y T H (f1 _ qx) (f2 _ qy) p hT
  · have e : i = xs.length := by omega
    subst e
    exact .inl ⟨⟨xs, ys, qx, qy, .inl (Nat.le_refl _)⟩, hd H p⟩
theorem _root_.L2.Same.put {H H' : Hp} {D : Addr} {o : HO} (k : Same H H') (n : H D = none) : Same H (upd H' D o) := fun b x e => by
  rw [upd_ne (ne_of_none e n)]
  exact k _ _ e
theorem upd_self {H : Hp} {a : Addr} {o : HO} (h : H a = some o) : upd H a o = H := by
  funext b
  by_cases e : b = a
  · rw [e, upd_same, h]
  · rw [upd_ne e]
theorem paired_snoc {α β : Type} {R : α → β → Prop} {a : α} {b : β} {xs : List α} {ys : List β} (h : Paired R xs ys) (ab : R a b) : Paired R (xs ++ [a]) (ys ++ [b]) := Paired.snoc h ab
section
variable {H H' : Hp}
theorem ints_dp {K : PySem.W.Frag} : ∀ s : List Int, DpAll K H (s.map V.int) (s.map PyData.int)
  | [] => .nil
  | x :: s => .cons (.int x) (ints_dp s)
end
theorem hu65_of {A : Around} {k : Nat} (hr : Room k A) : A.units + 65 < cLine := by
  have := hr.un
  omega
end Hl

set_option Elab.async false
set_option linter.all false
set_option maxRecDepth 100000
set_option maxHeartbeats 4000000
namespace Hl
open PySem PySem.Spec PyProof.Rows L2
abbrev sNames : Stmt := topS 34
def tails : List Str := ["", "b", "zz", "xy", "mmmmm", "bbbbb"]
def abc : Str := "abcdefghijklmnopqrstuvwxyz"
def nameF (t : Str) (a s k : Nat) : Str := (cutS t none (some (a : Int)) ++ ⟨#[(abc.cps.toList[(s + 5 * k) % 26]?).getD 0]⟩) ++ cutS t (some (a : Int)) none
def goodB (s : Str) : Bool := decide (1 ≤ s.length) && (decide (s.length ≤ 6) && s.cps.toList.all fun c => decide (97 ≤ c) && decide (c ≤ 122))
def unlikeB : List Str → Bool
  | [] => true
  | s :: r => !(r.contains s) && unlikeB r
def namesOk (t : Str) (a s : Nat) : Bool := ((List.range 4).map (nameF t a s)).all goodB && unlikeB ((List.range 4).map (nameF t a s))
theorem names_all : (tails.all fun t => (List.range 6).all fun a => (List.range 26).all fun s => namesOk t a s) = true := by decide +kernel
theorem tails_len : (tails.all fun t => decide (t.length ≤ 5)) = true := by decide +kernel
theorem unlike_nodup : ∀ {l : List Str}, unlikeB l = true → l.Nodup
  | [], _ => List.nodup_nil
  | s :: r, h => by
    unfold unlikeB at h
    rw [Bool.and_eq_true] at h
    rw [List.nodup_cons]
    refine ⟨fun z => ?_, unlike_nodup h.2⟩
    have := h.1
    rw [List.contains_iff_mem.mpr z] at this
    cases this
structure Good (s : Str) : Prop where
  l1 : 1 ≤ s.length
  l6 : s.length ≤ 6
  az : ∀ c ∈ s.cps.toList, 97 ≤ c ∧ c ≤ 122
theorem good_of {s : Str} (h : goodB s = true) : Good s := by
  unfold goodB at h
  simp only [Bool.and_eq_true, decide_eq_true_eq, List.all_eq_true] at h
  exact ⟨h.1, h.2.1, h.2.2⟩
theorem names_good {t : Str} {a s m : Nat} (ht : t ∈ tails) (ha : a ≤ t.length) (hs : s < 26) (hm : m ≤ 4) : ((List.range m).map (nameF t a s)).Nodup ∧ ∀ n ∈ (List.range m).map (nameF t a s), Good n := by
  have l5 := of_decide_eq_true (List.all_eq_true.mp tails_len t ht)
  have h1 := List.all_eq_true.mp names_all t ht
  have h2 := List.all_eq_true.mp h1 a (List.mem_range.mpr (by omega))
  have h3 := List.all_eq_true.mp h2 s (List.mem_range.mpr hs)
  unfold namesOk at h3
  rw [Bool.and_eq_true] at h3
  have sub : ((List.range m).map (nameF t a s)).Sublist ((List.range 4).map (nameF t a s)) := List.Sublist.map _ (List.range_sublist.mpr hm)
  exact ⟨List.Nodup.sublist sub (unlike_nodup h3.2), fun n hn => good_of (List.all_eq_true.mp h3.1 n (sub.subset hn))⟩
theorem cutS_len (t : Str) (lo hi : Option Int) : (cutS t lo hi).length ≤ t.length := cutS_length t lo hi
theorem str_len_append (a b : Str) : (a ++ b).length = a.length + b.length := PySem.Str.length_append a b
section
variable {P : Program} {w : World} {K : PySem.W.Frag} {mg : Str → Option Value} {base : Heap}
def spNames : Sp := fun vs H Q _ => ∃ (p l : Addr) (m : Nat), vs = [.ref p, .int m] ∧ Deal H p l ∧ m ≤ 4 ∧ ∀ (H' : Hp) (q : Addr) (ns : List Str), Kp H H' → Deal H' p l → H q = none → H' q = some (.lst (ns.map V.str)) → ns.length = m → ns.Nodup → (∀ n ∈ ns, Good n) → Q (.ref q) H'
abbrev nmNa : List Str := ["_law_deal_here", "_law_many", "_law_tail", "_law_at", "_law_start", "_law_signs", "_law_k"]
theorem scNa : FnScope nmNa ["_law_deal_here", "_law_many"] (defScope sNames) := ⟨rfl, rfl, rfl, by decide +kernel, rfl, by decide +kernel, by decide +kernel⟩
theorem ok_names {f fK fO : Addr} {fd fdK fdO : FuncData} {k : Nat} (F : Fun K "_law_names" "_law_names" sNames f fd)
    (GK : FnOk P w K mg base CX0 k fK fdK ["_law_deal_here", "_law_many"] spPick) (kK : PySem.W.keepIn K (.ref fK) = true) (bK : Binds K fdK ["_law_deal_here", "_law_many"] []) (gK : mg "_law_pick" = some (.ref fK))
    (GO : FnOk P w K mg base CX0 k fO fdO ["_law_deal_here", "_law_some"] spOf) (kO : PySem.W.keepIn K (.ref fO) = true) (bO : Binds K fdO ["_law_deal_here", "_law_some"] []) (gO : mg "_law_of" = some (.ref fO)) (B : Bi mg) :
    FnOk P w K mg base CX0 (k + 1) f fd ["_law_deal_here", "_law_many"] spNames := by
  refine F.ok scNa (fun vs H Q E h => ?_) (fun cdv A outer s H vs Q E hr h => ?_)
  · obtain ⟨p, l, m, rfl, _⟩ := h
    rfl
  · obtain ⟨p, l, m, rfl, dl, m4, q⟩ := h
    refine ⟨_, pss_cons (ps_set (i := 2) scNa.nd rfl (.inr rfl) (pe_call GO hr (by rfl) gO kO bO .nil pass0 (pa_cons (pv 0) (pa_cons (pe_lst (pa_cons pe_str (pa_cons pe_str (pa_cons pe_str (pa_cons pe_str (pa_cons pe_str (pa_cons pe_str pa_nil))))))) pa_nil))))
      (pss_cons (ps_asg (pe_tup (pa_cons (pe_call GK hr (by rfl) gK kK bK .nil pass0 (pa_cons (pv 0) (pa_cons (pe_op op_add (pe_callB call_len_str (by rfl) B.len PySem.boot_len (pa_cons (pv 2) pa_nil)) pe_int) pa_nil))) (pa_cons (pe_call GK hr (by rfl) gK kK bK .nil pass0 (pa_cons (pv 0) (pa_cons pe_int pa_nil))) pa_nil)))
          (pg_tup rfl (pgs_cons (pg_name (i := 3) scNa.nd rfl (.inr rfl)) (pgs_cons (pg_name (i := 4) scNa.nd rfl (.inr rfl)) pgs_nil))))
      (pss_cons (ps_set (i := 5) scNa.nd rfl (.inr rfl) pe_str)
      (pss_one (ps_ret (pe_lc (own := [("_law_k", 6)]) (g := gName 6) (tt := tYes) rfl scNa.nd (pi_range1 (by rfl) B.rng (pa_cons (pv 1) pa_nil))
        (blkOk_by (own := [("_law_k", 6)]) (N := nmNa) (sc := defScope sNames) (by decide +kernel)) (fun _ _ _ _ _ => pg_name (i := 6) scNa.nd rfl (Or.inl rfl)) (fun _ _ _ _ _ => pts_nil)
        (fun _ _ _ _ _ => pe_op op_add_str (pe_op op_add_str (pe_slice sl_str (pv 2) po_none (po_some (pv 3))) (pe_ix ix_str (pv 5) (pe_op op_mod (pe_op op_add (pv 4) (pe_op op_mul pe_int (pv 6))) pe_int) (fun _ _ => rfl))) (pe_slice sl_str (pv 2) (po_some (pv 3)) po_none))))))), ?_⟩
    refine ⟨_, rfl, (by show 6 ≤ sizeLine; decide), fun c nc => ?_⟩
    have sc := same_upd (o := .lst (tails.map V.str)) nc
    refine ⟨p, l, c, tails.map V.str, rfl, dl.same sc, upd_same, nd_strs, by decide, by decide, fun H1 x hx kp1 dl1 => ?_⟩
    have k1 := (Kp.of sc).trans kp1
    obtain ⟨t, ht, rfl⟩ := List.mem_map.mp hx
    have l5 := of_decide_eq_true (List.all_eq_true.mp tails_len t ht)
    have szt : t.length ≤ sizeLine := Nat.le_of_lt (small1000 (by omega))
    refine ⟨_, rfl, _, rfl, t, rfl, szt, _, _, rfl, rfl, p, l, _, rfl, dl1, by omega, lg (b := 11) (by omega) (by decide) (by decide), fun H2 at' k2 dl2 a0 a1 => ?_⟩
    refine ⟨_, rfl, p, l, 26, rfl, dl2, by decide, lg (b := 11) (by decide) (by decide) (by decide), fun H3 st k3 dl3 b0 b1 => ?_⟩
    obtain ⟨a, rfl⟩ := Int.eq_ofNat_of_zero_le a0
    obtain ⟨sn, rfl⟩ := Int.eq_ofNat_of_zero_le b0
    refine ⟨(by show 2 ≤ sizeLine; decide), fun T nT => ?_⟩
    have sT := same_upd (o := .tup [.int a, .int sn]) nT
    refine ⟨T, _, rfl, SqT.of upd_same, rfl, _, _, rfl, _, _, rfl, rfl, ?_⟩
    have k4 := ((k1.trans k2).trans k3).trans (Kp.of sT)
    have dl4 := dl3.same sT
    generalize (upd H3 T (.tup [.int a, .int sn])) = H4 at *
    refine ⟨_, rfl, (m : Int), rfl, by omega, by omega, fun D nD => ?_⟩
    have sD := same_upd (o := .lst []) nD
    have szc : ∀ lo hi, (cutS t lo hi).length ≤ 1000 := fun lo hi => by
      have h1 := cutS_len t lo hi
      omega
    refine lc_range (lo := 0) (n := m) (fun i H' => Same H4 H' ∧ H' D = some (.lst (((List.range i).map (nameF t a sn)).map V.str))) ⟨sD, upd_same⟩ ?_ ?_
    · rintro i H5 hi ⟨sm, hD⟩
      refine ⟨rfl, ?_⟩
      have hix : (sn + 5 * i) % 26 < 26 := Nat.mod_lt _ (by decide)
      have hc : abc.cps.toList[(sn + 5 * i) % 26]? = some ((abc.cps.toList[(sn + 5 * i) % 26]?).getD 0) := by
        rw [List.getElem?_eq_getElem (show (sn + 5 * i) % 26 < abc.cps.toList.length from hix)]
        rfl
      refine ⟨_, rfl, _, rfl, _, rfl, t, rfl, szt, ?_⟩
      refine ⟨_, rfl, _, rfl, _, rfl, _, _, rfl, rfl, .inl ⟨by decide, by decide⟩, _, _, rfl, rfl, _, _, rfl, rfl, (by show (0 : Int) < 26; decide), abc, _, _, rfl, rfl, (by show 26 ≤ sizeLine; decide), (by show atI abc.cps.toList (((sn : Int) + 5 * (0 + (i : Int))) % 26) = _; rw [show ((sn : Int) + 5 * (0 + (i : Int))) % 26 = (((sn + 5 * i) % 26 : Nat) : Int) by omega]; exact atI_nat hc), _, _, rfl, rfl, ?_, ?_⟩
      · have := szc none (some (a : Int))
        exact Nat.le_of_lt (small1000 (by show _ + 1 ≤ 1000; have := cutS_len t none (some (a : Int)); omega))
      refine ⟨_, rfl, _, rfl, _, rfl, t, rfl, szt, _, _, rfl, rfl, ?_, ?_⟩
      · have h1 := cutS_len t none (some (a : Int))
        have h2 := cutS_len t (some (a : Int)) none
        refine Nat.le_of_lt (small1000 ?_)
        rw [str_len_append]
        show _ + 1 + _ ≤ 1000
        omega
      refine ⟨_, hD, ?_, sm.put nD, ?_⟩
      · rw [List.length_map, List.length_map, List.length_range]
        exact small1000 (by omega)
      · rw [upd_same, List.range_succ, List.map_append, List.map_append]
        rfl
    · rintro H5 ⟨sm, hD⟩
      obtain ⟨nd, gd⟩ := names_good (m := m) ht (show a ≤ t.length by omega) (show sn < 26 by omega) m4
      exact q H5 D _ (k4.trans (Kp.of sm)) (dl4.same sm) (k4.free _ nD) hD (by rw [List.length_map, List.length_range]) nd gd
end
theorem strOk_good {s : Str} (h : Good s) : PyData.strOk s = true := by
  unfold PyData.strOk
  rw [← Array.all_toList]
  exact List.all_eq_true.mpr fun c hc => decide_eq_true (by have := h.az c hc; omega)
theorem strs_lay : ∀ s : List Str, (∀ n ∈ s, Good n) → PyData.canLayAll0 (s.map PyData.str) = true
  | [], _ => by simp [PyData.canLayAll0]
  | x :: s, h => by
    have h1 := strOk_good (h x List.mem_cons_self)
    have h2 := strs_lay s fun n hn => h n (List.mem_cons_of_mem _ hn)
    simp [PyData.canLayAll0, PyData.canLay0, h1, h2]
theorem strs_depth : ∀ s : List Str, PyData.depthAll (s.map PyData.str) ≤ 1
  | [] => by simp [PyData.depthAll]
  | x :: s => by
    have := strs_depth s
    simp only [List.map_cons, PyData.depthAll, PyData.depth]
    omega
theorem strs_shaped (s : List Str) (hg : ∀ n ∈ s, Good n) : SeqAt.shaped (.list (s.map PyData.str)) = true := by
  have h1 := strs_depth s
  have h2 : PyData.depth (.list (s.map PyData.str)) ≤ 64 := by
    simp only [PyData.depth]
    omega
  show (PyData.canLay0 (.list (s.map PyData.str)) && decide (PyData.depth (.list (s.map PyData.str)) ≤ 64)) = true
  rw [Bool.and_eq_true]
  exact ⟨by simp only [PyData.canLay0]; exact strs_lay s hg, decide_eq_true h2⟩
theorem strs_dp {K : PySem.W.Frag} {H : Hp} : ∀ s : List Str, DpAll K H (s.map V.str) (s.map PyData.str)
  | [] => .nil
  | x :: s => .cons (.str x) (strs_dp s)
theorem strs_eqv_nil (s : List Str) : PyData.eqv (.list (s.map PyData.str)) (.list []) = s.isEmpty := by
  cases s <;> simp [PyData.eqv, PyData.eqvAll]
theorem refs_of_pairs {H : Hp} : ∀ {vs : List V} {ps : List (Str × Int)}, Paired (PairAt H) vs ps → ∃ as : List Addr, vs = as.map V.ref
  | _, _, .nil => ⟨[], rfl⟩
  | _, _, .cons ⟨a, e, _⟩ r => by
    obtain ⟨as, h⟩ := refs_of_pairs r
    exact ⟨a :: as, by rw [e, h]; rfl⟩
theorem nd_pairs {H : Hp} {vs : List V} {ps : List (Str × Int)} (h : Paired (PairAt H) vs ps) : Nd (.lst vs) := by
  obtain ⟨as, rfl⟩ := refs_of_pairs h
  exact nd_refs
end Hl

set_option Elab.async false
set_option linter.all false
set_option maxRecDepth 100000
set_option maxHeartbeats 4000000
namespace Hl
open PySem PySem.Spec PyProof.Rows L2
abbrev sFr : Stmt := topS 38
structure OkR (r : Rl) : Prop where
  oe : 1 ≤ r.e ∧ r.e ≤ 6
  oa : 0 ≤ r.a ∧ r.a ≤ 12
  om : ∀ k, r.m = some k → 1 ≤ k ∧ k ≤ 6
  w1 : 1 ≤ r.ws.length
  w3 : r.ws.length ≤ 3
  wn : (r.ws.map (·.1)).Nodup
  wv : ∀ p ∈ r.ws, 0 ≤ p.2 ∧ p.2 ≤ 4
  wg : ∀ p ∈ r.ws, Good p.1
  g1 : 1 ≤ r.gs.length
  g3 : r.gs.length ≤ 3
  gn : (r.gs.map (·.1)).Nodup
  gv : ∀ p ∈ r.gs, 0 ≤ p.2 ∧ p.2 ≤ 4
  gg : ∀ p ∈ r.gs, Good p.1
section
variable {P : Program} {w : World} {K : PySem.W.Frag} {mg : Str → Option Value} {base : Heap}
def spFr : Sp := fun vs H Q _ => ∃ (p l i o : Addr) (ins outs : List Str), vs = [.ref p, .ref i, .ref o] ∧ Deal H p l ∧ H i = some (.lst (ins.map V.str)) ∧ H o = some (.lst (outs.map V.str)) ∧ 1 ≤ ins.length ∧ ins.length ≤ 3 ∧ 1 ≤ outs.length ∧ outs.length ≤ 3 ∧ ins.Nodup ∧ outs.Nodup ∧ (∀ n ∈ ins, Good n) ∧ (∀ n ∈ outs, Good n) ∧
  ∀ (H' : Hp) (v : V) (r : Rl), Kp H H' → Deal H' p l → RuleAt H' v r → OkR r → Q v H'
abbrev nmFr : List Str := ["_law_deal_here", "_law_ins", "_law_outs", "_law_used", "_law_paid", "_law_weights", "_law_gives", "_law_cap", "_law_name"]
theorem scFr : FnScope nmFr ["_law_deal_here", "_law_ins", "_law_outs"] (defScope sFr) := ⟨rfl, rfl, rfl, by decide +kernel, rfl, by decide +kernel, by decide +kernel⟩
theorem ok_fr {f fK fO : Addr} {fd fdK fdO : FuncData} {k : Nat} (F : Fun K "_law_full_rule" "_law_full_rule" sFr f fd)
    (GK : FnOk P w K mg base CX0 k fK fdK ["_law_deal_here", "_law_many"] spPick) (kK : PySem.W.keepIn K (.ref fK) = true) (bK : Binds K fdK ["_law_deal_here", "_law_many"] []) (gK : mg "_law_pick" = some (.ref fK))
    (GO : FnOk P w K mg base CX0 k fO fdO ["_law_deal_here", "_law_some"] spOf) (kO : PySem.W.keepIn K (.ref fO) = true) (bO : Binds K fdO ["_law_deal_here", "_law_some"] []) (gO : mg "_law_of" = some (.ref fO)) (B : Bi mg) (J : Bj mg) :
    FnOk P w K mg base CX0 (k + 1) f fd ["_law_deal_here", "_law_ins", "_law_outs"] spFr := by
  refine F.ok scFr (fun vs H Q E h => ?_) (fun cdv A outer s H vs Q E hr h => ?_)
  · obtain ⟨p, l, i, o, ins, outs, rfl, _⟩ := h
    rfl
  · obtain ⟨p, l, i, o, ins, outs, rfl, dl, hi, ho, il1, il3, ol1, ol3, ind, ond, ig, og, q⟩ := h
    refine ⟨_, (pss_cons (ps_setLc (i := 3) (own := [("_law_name", 8)]) (g := gName 8) rfl scFr.nd rfl rfl (sw_true rfl rfl rfl (by decide +kernel)) (pi_list (pe_callB cr_sortedS (by rfl) J.sorted (by decide +kernel) (pa_cons (pv 1) pa_nil))) (blkOk_by (own := [("_law_name", 8)]) (N := nmFr) (sc := defScope sFr) (by decide +kernel)) (fun _ _ _ _ _ => (pg_name (i := 8) scFr.nd rfl (Or.inl rfl))) (fun _ _ _ _ _ => pts_one (pt_cmpR op_eq (pe_call GK hr (by rfl) gK kK bK .nil pass0 (pa_cons (pv 0) (pa_cons pe_int pa_nil))) pe_int (nomark _))) (fun _ _ _ _ _ => (pv 8)))
        (Evl.pss_cut (ps_set (i := 3) scFr.nd rfl (.inl rfl) (pe_ifExp (pt_cmpR (op_neD hr.units) (pv 3) (pe_lst pa_nil) (nomark _)) (pv 3) (pe_lst (pa_cons (pe_call GO hr (by rfl) gO kO bO .nil pass0 (pa_cons (pv 0) (pa_cons (pv 1) pa_nil))) pa_nil))))
        (pss_cons (ps_setLc (i := 4) (own := [("_law_name", 8)]) (g := gName 8) rfl scFr.nd rfl rfl (sw_true rfl rfl rfl (by decide +kernel)) (pi_list (pe_callB cr_sortedS (by rfl) J.sorted (by decide +kernel) (pa_cons (pv 2) pa_nil))) (blkOk_by (own := [("_law_name", 8)]) (N := nmFr) (sc := defScope sFr) (by decide +kernel)) (fun _ _ _ _ _ => (pg_name (i := 8) scFr.nd rfl (Or.inl rfl))) (fun _ _ _ _ _ => pts_one (pt_cmpR op_eq (pe_call GK hr (by rfl) gK kK bK .nil pass0 (pa_cons (pv 0) (pa_cons pe_int pa_nil))) pe_int (nomark _))) (fun _ _ _ _ _ => (pv 8)))
        (Evl.pss_cut (ps_set (i := 4) scFr.nd rfl (.inl rfl) (pe_ifExp (pt_cmpR (op_neD hr.units) (pv 4) (pe_lst pa_nil) (nomark _)) (pv 4) (pe_lst (pa_cons (pe_call GO hr (by rfl) gO kO bO .nil pass0 (pa_cons (pv 0) (pa_cons (pv 2) pa_nil))) pa_nil))))
        (pss_cons (ps_set (i := 5) scFr.nd rfl (.inl rfl) (pe_callTy (r := rTupF K) call_tupF (by rfl) B.tup (by decide +kernel) (pa_cons (pe_lc (own := [("_law_name", 8)]) (g := gName 8) (tt := tYes) rfl scFr.nd (pi_list (pv 3)) (blkOk_by (own := [("_law_name", 8)]) (N := nmFr) (sc := defScope sFr) (by decide +kernel)) (fun _ _ _ _ _ => (pg_name (i := 8) scFr.nd rfl (Or.inl rfl))) (fun _ _ _ _ _ => pts_nil) (fun _ _ _ _ _ => (pe_tup (pa_cons (pv 8) (pa_cons (pe_op op_add pe_int (pe_call GO hr (by rfl) gO kO bO .nil pass0 (pa_cons (pv 0) (pa_cons (pe_lst (pa_cons pe_int (pa_cons pe_int (pa_cons pe_int (pa_cons pe_int (pa_cons pe_int pa_nil)))))) pa_nil)))) pa_nil))))) pa_nil)))
        (pss_cons (ps_set (i := 6) scFr.nd rfl (.inl rfl) (pe_callTy (r := rTupF K) call_tupF (by rfl) B.tup (by decide +kernel) (pa_cons (pe_lc (own := [("_law_name", 8)]) (g := gName 8) (tt := tYes) rfl scFr.nd (pi_list (pv 4)) (blkOk_by (own := [("_law_name", 8)]) (N := nmFr) (sc := defScope sFr) (by decide +kernel)) (fun _ _ _ _ _ => (pg_name (i := 8) scFr.nd rfl (Or.inl rfl))) (fun _ _ _ _ _ => pts_nil) (fun _ _ _ _ _ => (pe_tup (pa_cons (pv 8) (pa_cons (pe_op op_add pe_int (pe_call GO hr (by rfl) gO kO bO .nil pass0 (pa_cons (pv 0) (pa_cons (pe_lst (pa_cons pe_int (pa_cons pe_int (pa_cons pe_int (pa_cons pe_int (pa_cons pe_int pa_nil)))))) pa_nil)))) pa_nil))))) pa_nil)))
        (pss_cons (ps_set (i := 7) scFr.nd rfl (.inl rfl) (pe_call GO hr (by rfl) gO kO bO .nil pass0 (pa_cons (pv 0) (pa_cons (pe_lst (pa_cons pe_non (pa_cons pe_non (pa_cons (pe_op op_add pe_int (pe_call GK hr (by rfl) gK kK bK .nil pass0 (pa_cons (pv 0) (pa_cons pe_int pa_nil)))) (pa_cons pe_int pa_nil))))) pa_nil))))
        (pss_one (ps_ret (pe_tup (pa_cons pe_str (pa_cons (pe_op op_add pe_int (pe_call GK hr (by rfl) gK kK bK .nil pass0 (pa_cons (pv 0) (pa_cons pe_int pa_nil)))) (pa_cons (pe_call GO hr (by rfl) gO kO bO .nil pass0 (pa_cons (pv 0) (pa_cons (pe_lst (pa_cons pe_int (pa_cons pe_int (pa_cons (pe_call GK hr (by rfl) gK kK bK .nil pass0 (pa_cons (pv 0) (pa_cons pe_int pa_nil))) pa_nil)))) pa_nil))) (pa_cons (pv 5) (pa_cons (pv 6) (pa_cons (pv 7) pa_nil)))))))))))))))), ?_⟩
    -- 1
    refine ⟨_, rfl, i, ins, rfl, SqL.of ((Kp.refl H).keep _ _ nd_strs hi), by omega, fun ys1 qs1 pm1 _ ns1 => ?_⟩
    have ss1 := same_upd (o := .lst (ys1.map V.str)) ns1
    have hqs1 : (upd H qs1 (.lst (ys1.map V.str))) qs1 = some (.lst (ys1.map V.str)) := upd_same
    have kq1 := (Kp.refl H).trans (Kp.of ss1)
    have dq1 := dl.same ss1
    have ly1 := pm1.length_eq
    generalize (upd H qs1 (.lst (ys1.map V.str))) = HQ1 at *
    refine ⟨qs1, rfl, ⟨_, SqL.of hqs1⟩, fun D1 nD1 => ?_⟩
    have sD1 := same_upd (o := .lst []) nD1
    have np1 := dq1.ne nD1
    have nl1 := dq1.nl nD1
    refine lc_list (K := K) (a := qs1) (xs := ys1.map V.str) (fun j H' => ∃ sel : List Str, Kp HQ1 H' ∧ Deal H' p l ∧ H' D1 = some (.lst (sel.map V.str)) ∧ sel.Sublist (ys1.take j))
      ⟨[], Kp.of sD1, dq1.same sD1, upd_same, List.nil_sublist _⟩ (fun j H' _ ⟨_, kp', _⟩ => SqL.of (kp'.keep _ _ nd_strs hqs1)) ?_ ?_
    · rintro j x H' hx ⟨sel, kp', dl', hD, sb⟩
      obtain ⟨nm, hnm, rfl⟩ := map_str_get hx
      have hjl := (List.getElem?_eq_some_iff.mp hnm).1
      have lsel : sel.length ≤ j := Nat.le_trans sb.length_le (by rw [List.length_take]; omega)
      refine ⟨rfl, ?_⟩
      refine ⟨_, rfl, p, l, 2, rfl, dl', by decide, lg (b := 11) (by decide) (by decide) (by decide), fun H2 r k2 dl2 r0 r1 => ?_⟩
      have hD2 := k2.keep _ _ nd_strs hD
      refine ⟨rfl, _, rfl, ite2 (fun e => ?_) (fun e => ?_)⟩
      · refine ⟨_, rfl, _, hD2, ?_, sel ++ [nm], (kp'.trans k2).put nD1, dl2.put np1 nl1, ?_, ?_⟩
        · rw [List.length_map]
          exact small1000 (by omega)
        · rw [upd_same, List.map_append]
          rfl
        · rw [List.take_add_one, hnm]
          exact sb.append (List.Sublist.refl _)
      · refine ⟨sel, kp'.trans k2, dl2, hD2, ?_⟩
        rw [List.take_add_one]
        exact sb.trans (List.sublist_append_left _ _)
    rintro HA1 ⟨sl1, ka1, dla1, hDa1, sb1⟩
    rw [List.length_map, List.take_length] at sb1
    have kb1 := kq1.trans ka1
    have slen1 := sb1.length_le
    have snd1 : sl1.Nodup := (pm1.nodup_iff.mpr ind).sublist sb1
    have sin1 : ∀ s ∈ sl1, s ∈ ins := fun s hs => pm1.subset (sb1.subset hs)
    refine ⟨fun σ' H' => ∃ (u : Addr) (us : List Str), σ' = [some (.ref p), some (.ref i), some (.ref o), some (.ref u), none, none, none, none, none] ∧ Kp HA1 H' ∧ Deal H' p l ∧ H' u = some (.lst (us.map V.str)) ∧ 1 ≤ us.length ∧ us.length ≤ 3 ∧ us.Nodup ∧ ∀ s ∈ us, s ∈ ins, ?_, ?_⟩
    · refine ⟨_, rfl, Nat.zero_le _, fun z nz => ?_⟩
      have sz := same_upd (o := .lst []) nz
      refine ⟨.list (sl1.map PyData.str), .list [], .lst (SqL.of (sz _ _ hDa1)) (strs_dp _), .lst (SqL.of upd_same) .nil, strs_shaped _ (fun n hn => ig n (sin1 n hn)), strs_shaped [] (fun n hn => by cases hn), _, rfl, ?_⟩
      rw [strs_eqv_nil]
      refine ite2 (fun e => ?_) (fun e => ?_)
      · refine ⟨_, rfl, D1, sl1, rfl, Kp.of sz, dla1.same sz, sz _ _ hDa1, ?_, by omega, snd1, sin1⟩
        cases sl1 with
        | nil => exact absurd e (by decide)
        | cons a r => exact Nat.succ_le_succ (Nat.zero_le _)
      · refine ⟨_, rfl, _, rfl, p, l, i, ins.map V.str, rfl, dla1.same sz, sz _ _ (kb1.keep _ _ nd_strs hi), nd_strs, by rw [List.length_map]; omega, by rw [List.length_map]; omega, fun H2 x hx2 k2 dl2 => ?_⟩
        obtain ⟨s1, hs1, rfl⟩ := List.mem_map.mp hx2
        refine ⟨(by show 1 ≤ sizeLine; decide), fun q2 nq2 => ?_⟩
        have s2 := same_upd (o := .lst [V.str s1]) nq2
        exact ⟨q2, [s1], rfl, ((Kp.of sz).trans k2).trans (Kp.of s2), dl2.same s2, upd_same, Nat.le_refl 1, (by show 1 ≤ 3; decide), List.nodup_cons.mpr ⟨List.not_mem_nil, List.nodup_nil⟩, fun s hs => by rw [List.mem_singleton.mp hs]; exact hs1⟩
    rintro σ' H1 ⟨u1, us1, rfl, kc1, dlc1, hu1, ul11, ul31, und1, uin1⟩
    have kz1 := kb1.trans kc1
    -- 2
    refine ⟨_, rfl, o, outs, rfl, SqL.of (kz1.keep _ _ nd_strs ho), by omega, fun ys2 qs2 pm2 _ ns2 => ?_⟩
    have ss2 := same_upd (o := .lst (ys2.map V.str)) ns2
    have hqs2 : (upd H1 qs2 (.lst (ys2.map V.str))) qs2 = some (.lst (ys2.map V.str)) := upd_same
    have kq2 := kz1.trans (Kp.of ss2)
    have dq2 := dlc1.same ss2
    have ly2 := pm2.length_eq
    generalize (upd H1 qs2 (.lst (ys2.map V.str))) = HQ2 at *
    refine ⟨qs2, rfl, ⟨_, SqL.of hqs2⟩, fun D1 nD1 => ?_⟩
    have sD1 := same_upd (o := .lst []) nD1
    have np1 := dq2.ne nD1
    have nl1 := dq2.nl nD1
    refine lc_list (K := K) (a := qs2) (xs := ys2.map V.str) (fun j H' => ∃ sel : List Str, Kp HQ2 H' ∧ Deal H' p l ∧ H' D1 = some (.lst (sel.map V.str)) ∧ sel.Sublist (ys2.take j))
      ⟨[], Kp.of sD1, dq2.same sD1, upd_same, List.nil_sublist _⟩ (fun j H' _ ⟨_, kp', _⟩ => SqL.of (kp'.keep _ _ nd_strs hqs2)) ?_ ?_
    · rintro j x H' hx ⟨sel, kp', dl', hD, sb⟩
      obtain ⟨nm, hnm, rfl⟩ := map_str_get hx
      have hjl := (List.getElem?_eq_some_iff.mp hnm).1
      have lsel : sel.length ≤ j := Nat.le_trans sb.length_le (by rw [List.length_take]; omega)
      refine ⟨rfl, ?_⟩
      refine ⟨_, rfl, p, l, 2, rfl, dl', by decide, lg (b := 11) (by decide) (by decide) (by decide), fun H2 r k2 dl2 r0 r1 => ?_⟩
      have hD2 := k2.keep _ _ nd_strs hD
      refine ⟨rfl, _, rfl, ite2 (fun e => ?_) (fun e => ?_)⟩
      · refine ⟨_, rfl, _, hD2, ?_, sel ++ [nm], (kp'.trans k2).put nD1, dl2.put np1 nl1, ?_, ?_⟩
        · rw [List.length_map]
          exact small1000 (by omega)
        · rw [upd_same, List.map_append]
          rfl
        · rw [List.take_add_one, hnm]
          exact sb.append (List.Sublist.refl _)
      · refine ⟨sel, kp'.trans k2, dl2, hD2, ?_⟩
        rw [List.take_add_one]
        exact sb.trans (List.sublist_append_left _ _)
    rintro HA2 ⟨sl2, ka2, dla2, hDa2, sb2⟩
    rw [List.length_map, List.take_length] at sb2
    have kb2 := kq2.trans ka2
    have slen2 := sb2.length_le
    have snd2 : sl2.Nodup := (pm2.nodup_iff.mpr ond).sublist sb2
    have sin2 : ∀ s ∈ sl2, s ∈ outs := fun s hs => pm2.subset (sb2.subset hs)
    refine ⟨fun σ' H' => ∃ (u : Addr) (us : List Str), σ' = [some (.ref p), some (.ref i), some (.ref o), some (.ref u1), some (.ref u), none, none, none, none] ∧ Kp HA2 H' ∧ Deal H' p l ∧ H' u = some (.lst (us.map V.str)) ∧ 1 ≤ us.length ∧ us.length ≤ 3 ∧ us.Nodup ∧ ∀ s ∈ us, s ∈ outs, ?_, ?_⟩
    · refine ⟨_, rfl, Nat.zero_le _, fun z nz => ?_⟩
      have sz := same_upd (o := .lst []) nz
      refine ⟨.list (sl2.map PyData.str), .list [], .lst (SqL.of (sz _ _ hDa2)) (strs_dp _), .lst (SqL.of upd_same) .nil, strs_shaped _ (fun n hn => og n (sin2 n hn)), strs_shaped [] (fun n hn => by cases hn), _, rfl, ?_⟩
      rw [strs_eqv_nil]
      refine ite2 (fun e => ?_) (fun e => ?_)
      · refine ⟨_, rfl, D1, sl2, rfl, Kp.of sz, dla2.same sz, sz _ _ hDa2, ?_, by omega, snd2, sin2⟩
        cases sl2 with
        | nil => exact absurd e (by decide)
        | cons a r => exact Nat.succ_le_succ (Nat.zero_le _)
      · refine ⟨_, rfl, _, rfl, p, l, o, outs.map V.str, rfl, dla2.same sz, sz _ _ (kb2.keep _ _ nd_strs ho), nd_strs, by rw [List.length_map]; omega, by rw [List.length_map]; omega, fun H2 x hx2 k2 dl2 => ?_⟩
        obtain ⟨s1, hs1, rfl⟩ := List.mem_map.mp hx2
        refine ⟨(by show 1 ≤ sizeLine; decide), fun q2 nq2 => ?_⟩
        have s2 := same_upd (o := .lst [V.str s1]) nq2
        exact ⟨q2, [s1], rfl, ((Kp.of sz).trans k2).trans (Kp.of s2), dl2.same s2, upd_same, Nat.le_refl 1, (by show 1 ≤ 3; decide), List.nodup_cons.mpr ⟨List.not_mem_nil, List.nodup_nil⟩, fun s hs => by rw [List.mem_singleton.mp hs]; exact hs1⟩
    rintro σ' H2 ⟨u2, us2, rfl, kc2, dlc2, hu2, ul12, ul32, und2, uin2⟩
    have kz2 := kb2.trans kc2
    -- pairs of us1
    have hu1' : H2 u1 = some (.lst (us1.map V.str)) := ((Kp.of ss2).trans (ka2.trans kc2)).keep _ _ nd_strs hu1
    refine ⟨_, rfl, u1, rfl, ⟨_, SqL.of hu1'⟩, fun D2 nD2 => ?_⟩
    have sD2 := same_upd (o := .lst []) nD2
    have np2 := dlc2.ne nD2
    have nl2 := dlc2.nl nD2
    refine lc_list (K := K) (a := u1) (xs := us1.map V.str) (fun j H' => ∃ (vs : List V) (ps : List (Str × Int)), Kp H2 H' ∧ Deal H' p l ∧ H' D2 = some (.lst vs) ∧ Paired (PairAt H') vs ps ∧ ps.map (·.1) = us1.take j ∧ ∀ q ∈ ps, 0 ≤ q.2 ∧ q.2 ≤ 4)
      ⟨[], [], Kp.of sD2, dlc2.same sD2, upd_same, .nil, by rw [List.take_zero]; rfl, (fun q hq => by cases hq)⟩ (fun j H' _ ⟨_, _, kp', _⟩ => SqL.of (kp'.keep _ _ nd_strs hu1')) ?_ ?_
    · rintro j x H' hx ⟨vs, ps, kp', dl', hD, pp, pn, pv'⟩
      obtain ⟨nm, hnm, rfl⟩ := map_str_get hx
      have hjl := (List.getElem?_eq_some_iff.mp hnm).1
      have lv := pp.length
      have lps : ps.length = j := by
        have := congrArg List.length pn
        rw [List.length_map, List.length_take] at this
        omega
      refine ⟨rfl, ?_⟩
      refine ⟨_, rfl, _, rfl, (by show 5 ≤ sizeLine; decide), fun c nc => ?_⟩
      have sc := same_upd (o := .lst (([0, 0, 1, 3, 2] : List Int).map V.int)) nc
      refine ⟨p, l, c, ([0, 0, 1, 3, 2] : List Int).map V.int, rfl, dl'.same sc, upd_same, nd_ints, by decide, by decide, fun H2 x hx2 k2 dl2 => ?_⟩
      obtain ⟨r, hr2, rfl⟩ := List.mem_map.mp hx2
      have rb : 0 ≤ r ∧ r ≤ 3 := by
        simp only [List.mem_cons, List.not_mem_nil, or_false] at hr2
        omega
      have kk := (Kp.of sc).trans k2
      refine ⟨_, _, rfl, rfl, (by show 2 ≤ sizeLine; decide), fun T nT => ?_⟩
      have sT := same_upd (o := .tup [.str nm, .int (1 + r)]) nT
      have kT := kk.trans (Kp.of sT)
      have hDT := kT.keep _ _ (nd_pairs pp) hD
      refine ⟨_, hDT, small1000 (by omega), vs ++ [.ref T], ps ++ [(nm, 1 + r)], (kp'.trans kT).put nD2, (dl2.same sT).put np2 nl2, upd_same, ?_, ?_, ?_⟩
      · have nTD : T ≠ D2 := ne_of_fresh (kk.keep _ _ (nd_pairs pp) hD) nT
        have keepT : ∀ v q, PairAt H' v q → PairAt (upd (upd H2 T (.tup [.str nm, .int (1 + r)])) D2 (.lst (vs ++ [.ref T]))) v q := fun v q ⟨a, e, h⟩ => by
          have na : a ≠ D2 := fun z => by
            rw [z, hD] at h
            cases h
          exact ⟨a, e, by rw [upd_ne na]; exact kT.keep _ _ nd_tup h⟩
        exact paired_snoc (paired_mono keepT pp) ⟨T, rfl, by rw [upd_ne nTD]; exact upd_same⟩
      · rw [List.map_append, pn, List.take_add_one, hnm]
        rfl
      · intro q hq
        rcases List.mem_append.mp hq with h | h
        · exact pv' q h
        · rw [List.mem_singleton.mp h]
          exact ⟨by show 0 ≤ 1 + r; omega, by show 1 + r ≤ 4; omega⟩
    rintro HP3 ⟨vs3, ps3, kp3, dlp3, hDp3, pp3, pn3, pv3⟩
    rw [List.length_map, List.take_length] at pn3
    have pl3 : ps3.length = us1.length := by
      have := congrArg List.length pn3
      rw [List.length_map] at this
      exact this
    refine ⟨D2, vs3, rfl, .inl ⟨SqL.of hDp3, fun t3 o3 nt3 dn3 => ?_⟩⟩
    have st3 := same_upd (o := .frz o3 (.tup vs3)) nt3
    have kr3 := kp3.trans (Kp.of st3)
    have dr3 := dlp3.same st3
    have pa3 : PairsAt (upd HP3 t3 (.frz o3 (.tup vs3))) t3 ps3 := ⟨_, ⟨o3, dn3, upd_same⟩, paired_mono (fun _ _ => PairAt.kp (Kp.of st3)) pp3⟩
    generalize (upd HP3 t3 (.frz o3 (.tup vs3))) = H3 at *
    -- pairs of us2
    have hu2' : H3 u2 = some (.lst (us2.map V.str)) := kr3.keep _ _ nd_strs hu2
    refine ⟨_, rfl, u2, rfl, ⟨_, SqL.of hu2'⟩, fun D2 nD2 => ?_⟩
    have sD2 := same_upd (o := .lst []) nD2
    have np2 := dr3.ne nD2
    have nl2 := dr3.nl nD2
    refine lc_list (K := K) (a := u2) (xs := us2.map V.str) (fun j H' => ∃ (vs : List V) (ps : List (Str × Int)), Kp H3 H' ∧ Deal H' p l ∧ H' D2 = some (.lst vs) ∧ Paired (PairAt H') vs ps ∧ ps.map (·.1) = us2.take j ∧ ∀ q ∈ ps, 0 ≤ q.2 ∧ q.2 ≤ 4)
      ⟨[], [], Kp.of sD2, dr3.same sD2, upd_same, .nil, by rw [List.take_zero]; rfl, (fun q hq => by cases hq)⟩ (fun j H' _ ⟨_, _, kp', _⟩ => SqL.of (kp'.keep _ _ nd_strs hu2')) ?_ ?_
    · rintro j x H' hx ⟨vs, ps, kp', dl', hD, pp, pn, pv'⟩
      obtain ⟨nm, hnm, rfl⟩ := map_str_get hx
      have hjl := (List.getElem?_eq_some_iff.mp hnm).1
      have lv := pp.length
      have lps : ps.length = j := by
        have := congrArg List.length pn
        rw [List.length_map, List.length_take] at this
        omega
      refine ⟨rfl, ?_⟩
      refine ⟨_, rfl, _, rfl, (by show 5 ≤ sizeLine; decide), fun c nc => ?_⟩
      have sc := same_upd (o := .lst (([0, 0, 1, 3, 2] : List Int).map V.int)) nc
      refine ⟨p, l, c, ([0, 0, 1, 3, 2] : List Int).map V.int, rfl, dl'.same sc, upd_same, nd_ints, by decide, by decide, fun H2 x hx2 k2 dl2 => ?_⟩
      obtain ⟨r, hr2, rfl⟩ := List.mem_map.mp hx2
      have rb : 0 ≤ r ∧ r ≤ 3 := by
        simp only [List.mem_cons, List.not_mem_nil, or_false] at hr2
        omega
      have kk := (Kp.of sc).trans k2
      refine ⟨_, _, rfl, rfl, (by show 2 ≤ sizeLine; decide), fun T nT => ?_⟩
      have sT := same_upd (o := .tup [.str nm, .int (1 + r)]) nT
      have kT := kk.trans (Kp.of sT)
      have hDT := kT.keep _ _ (nd_pairs pp) hD
      refine ⟨_, hDT, small1000 (by omega), vs ++ [.ref T], ps ++ [(nm, 1 + r)], (kp'.trans kT).put nD2, (dl2.same sT).put np2 nl2, upd_same, ?_, ?_, ?_⟩
      · have nTD : T ≠ D2 := ne_of_fresh (kk.keep _ _ (nd_pairs pp) hD) nT
        have keepT : ∀ v q, PairAt H' v q → PairAt (upd (upd H2 T (.tup [.str nm, .int (1 + r)])) D2 (.lst (vs ++ [.ref T]))) v q := fun v q ⟨a, e, h⟩ => by
          have na : a ≠ D2 := fun z => by
            rw [z, hD] at h
            cases h
          exact ⟨a, e, by rw [upd_ne na]; exact kT.keep _ _ nd_tup h⟩
        exact paired_snoc (paired_mono keepT pp) ⟨T, rfl, by rw [upd_ne nTD]; exact upd_same⟩
      · rw [List.map_append, pn, List.take_add_one, hnm]
        rfl
      · intro q hq
        rcases List.mem_append.mp hq with h | h
        · exact pv' q h
        · rw [List.mem_singleton.mp h]
          exact ⟨by show 0 ≤ 1 + r; omega, by show 1 + r ≤ 4; omega⟩
    rintro HP4 ⟨vs4, ps4, kp4, dlp4, hDp4, pp4, pn4, pv4⟩
    rw [List.length_map, List.take_length] at pn4
    have pl4 : ps4.length = us2.length := by
      have := congrArg List.length pn4
      rw [List.length_map] at this
      exact this
    refine ⟨D2, vs4, rfl, .inl ⟨SqL.of hDp4, fun t4 o4 nt4 dn4 => ?_⟩⟩
    have st4 := same_upd (o := .frz o4 (.tup vs4)) nt4
    have kr4 := kp4.trans (Kp.of st4)
    have dr4 := dlp4.same st4
    have pa4 : PairsAt (upd HP4 t4 (.frz o4 (.tup vs4))) t4 ps4 := ⟨_, ⟨o4, dn4, upd_same⟩, paired_mono (fun _ _ => PairAt.kp (Kp.of st4)) pp4⟩
    generalize (upd HP4 t4 (.frz o4 (.tup vs4))) = H4 at *
    -- the bound
    refine ⟨_, rfl, _, rfl, p, l, 6, rfl, dr4, by decide, lg (b := 11) (by decide) (by decide) (by decide), fun H5 r5 k5 dl5 a0 a1 => ?_⟩
    refine ⟨_, _, rfl, rfl, (by show 4 ≤ sizeLine; decide), fun c6 nc6 => ?_⟩
    have sc6 := same_upd (o := .lst [V.non, V.non, V.int (1 + r5), V.int 1]) nc6
    refine ⟨p, l, c6, [V.non, V.non, V.int (1 + r5), V.int 1], rfl, dl5.same sc6, upd_same, nd_lst (fun x r e a => by cases e; intro z; cases z), (by show 0 < 4; decide), (by show 4 ≤ 1000; decide), fun H6 x6 hx6 k6 dl6 => ?_⟩
    obtain ⟨mo, rfl, hmo⟩ : ∃ mo : Option Int, x6 = moV mo ∧ ∀ k, mo = some k → 1 ≤ k ∧ k ≤ 6 := by
      simp only [List.mem_cons, List.not_mem_nil, or_false] at hx6
      rcases hx6 with rfl | rfl | rfl | rfl
      · exact ⟨none, rfl, fun k e => by cases e⟩
      · exact ⟨none, rfl, fun k e => by cases e⟩
      · exact ⟨some (1 + r5), rfl, fun k e => by cases e; omega⟩
      · exact ⟨some 1, rfl, fun k e => by cases e; omega⟩
    have k46 := k5.trans ((Kp.of sc6).trans k6)
    -- the rule
    refine ⟨_, rfl, p, l, 6, rfl, dl6, by decide, lg (b := 11) (by decide) (by decide) (by decide), fun H7 r7 k7 dl7 b0 b1 => ?_⟩
    refine ⟨_, _, rfl, rfl, _, rfl, _, rfl, p, l, 13, rfl, dl7, by decide, lg (b := 11) (by decide) (by decide) (by decide), fun H8 r8 k8 dl8 c0 c1 => ?_⟩
    refine ⟨(by show 3 ≤ sizeLine; decide), fun c9 nc9 => ?_⟩
    have sc9 := same_upd (o := .lst [V.int 0, V.int 0, V.int r8]) nc9
    refine ⟨p, l, c9, [V.int 0, V.int 0, V.int r8], rfl, dl8.same sc9, upd_same, nd_lst (fun x r e a => by cases e; intro z; cases z), (by show 0 < 3; decide), (by show 3 ≤ 1000; decide), fun H9 x9 hx9 k9 dl9 => ?_⟩
    obtain ⟨ea, rfl, ea0, ea12⟩ : ∃ ea : Int, x9 = .int ea ∧ 0 ≤ ea ∧ ea ≤ 12 := by
      simp only [List.mem_cons, List.not_mem_nil, or_false] at hx9
      rcases hx9 with rfl | rfl | rfl
      · exact ⟨0, rfl, by omega, by omega⟩
      · exact ⟨0, rfl, by omega, by omega⟩
      · exact ⟨r8, rfl, by omega, by omega⟩
    refine ⟨_, rfl, _, rfl, _, rfl, (by show 6 ≤ sizeLine; decide), fun t nt => ?_⟩
    have sF := same_upd (o := .tup [.str "each", .int (1 + r7), .int ea, .ref t3, .ref t4, moV mo]) nt
    have k4F := ((k46.trans k7).trans k8).trans (((Kp.of sc9).trans k9).trans (Kp.of sF))
    refine q _ _ ⟨1 + r7, ea, mo, ps3, ps4⟩ ((((kz2.trans kr3).trans kr4)).trans k4F) (dl9.same sF) ⟨t, t3, t4, rfl, upd_same, (pa3.kp kr4).kp k4F, pa4.kp k4F⟩ ⟨⟨by show 1 ≤ 1 + r7; omega, by show 1 + r7 ≤ 6; omega⟩, ⟨ea0, ea12⟩, hmo, ?_, ?_, ?_, pv3, ?_, ?_, ?_, ?_, pv4, ?_⟩
    · show 1 ≤ ps3.length; omega
    · show ps3.length ≤ 3; omega
    · show (ps3.map (·.1)).Nodup; rw [pn3]; exact und1
    · intro z hz
      have h1 : z.1 ∈ ps3.map (·.1) := List.mem_map_of_mem hz
      rw [pn3] at h1
      exact ig _ (uin1 _ h1)
    · show 1 ≤ ps4.length; omega
    · show ps4.length ≤ 3; omega
    · show (ps4.map (·.1)).Nodup; rw [pn4]; exact und2
    · intro z hz
      have h1 : z.1 ∈ ps4.map (·.1) := List.mem_map_of_mem hz
      rw [pn4] at h1
      exact og _ (uin2 _ h1)
end
end Hl

set_option Elab.async false
set_option linter.all false
set_option maxRecDepth 100000
set_option maxHeartbeats 4000000
namespace Hl
open PySem PySem.Spec PyProof.Rows L2
abbrev sAr : Stmt := topS 39
abbrev sNo : Stmt := topS 40
/-! sorted rows of texts -/
theorem le_of_lt {a b : Str} : ltCps b.cps.toList a.cps.toList = false ↔ a.cps.toList ≤ b.cps.toList := by
  rw [ltCps_eq, decide_eq_false_iff_not]
  exact Iff.rfl
theorem rising_pw : ∀ (l : List Str) (p : Str), risingS p l = true → (∀ x ∈ l, p.cps.toList ≤ x.cps.toList) ∧ l.Pairwise fun a b => a.cps.toList ≤ b.cps.toList
  | [], p, _ => ⟨(fun x h => nomatch h), .nil⟩
  | y :: r, p, h => by
    have h' : (!ltCps y.cps.toList p.cps.toList && risingS y r) = true := h
    rw [Bool.and_eq_true, Bool.not_eq_true'] at h'
    obtain ⟨h1, h2⟩ := h'
    have py := le_of_lt.mp h1
    obtain ⟨h3, h4⟩ := rising_pw r y h2
    refine ⟨fun x hx => ?_, .cons h3 h4⟩
    rcases List.mem_cons.mp hx with rfl | hx
    · exact py
    · exact List.le_trans py (h3 x hx)
theorem sorted_pw : ∀ {l : List Str}, sortedS l = true → l.Pairwise fun a b => a.cps.toList ≤ b.cps.toList
  | [], _ => .nil
  | y :: r, h => by
    obtain ⟨h3, h4⟩ := rising_pw r y h
    exact .cons h3 h4
theorem str_ext {a b : Str} (h : a.cps.toList = b.cps.toList) : a = b := by
  cases a
  cases b
  congr 1
  exact Array.toList_inj.mp h
/-- rows of texts, each once and in order, are one if they hold the same -/
theorem sorted_one : ∀ {l m : List Str}, l.Nodup → m.Nodup → sortedS l = true → sortedS m = true → (∀ x, x ∈ l ↔ x ∈ m) → l = m := by
  intro l m hl hm sl sm e
  have pl := sorted_pw sl
  have pm := sorted_pw sm
  clear sl sm
  induction l generalizing m with
  | nil =>
    cases m with
    | nil => rfl
    | cons y r => exact absurd ((e y).mpr List.mem_cons_self) List.not_mem_nil
  | cons x l ih =>
    cases m with
    | nil => exact absurd ((e x).mp List.mem_cons_self) List.not_mem_nil
    | cons y r =>
      obtain ⟨a1, a2⟩ := List.pairwise_cons.mp pl
      obtain ⟨b1, b2⟩ := List.pairwise_cons.mp pm
      obtain ⟨n1, n2⟩ := List.nodup_cons.mp hl
      obtain ⟨n3, n4⟩ := List.nodup_cons.mp hm
      have xy : x = y := by
        rcases List.mem_cons.mp ((e x).mp List.mem_cons_self) with h | h
        · exact h
        · rcases List.mem_cons.mp ((e y).mpr List.mem_cons_self) with h' | h'
          · exact h'.symm
          · exact str_ext (List.le_antisymm (a1 y h') (b1 x h))
      subst xy
      rw [ih n2 n4 (fun z => ?_) a2 b2]
      constructor
      · intro hz
        rcases List.mem_cons.mp ((e z).mp (List.mem_cons_of_mem _ hz)) with h | h
        · exact absurd (h ▸ hz) n1
        · exact h
      · intro hz
        rcases List.mem_cons.mp ((e z).mpr (List.mem_cons_of_mem _ hz)) with h | h
        · exact absurd (h ▸ hz) n3
        · exact h
theorem RuleAt.put {H : Hp} {v : V} {r : Rl} {D : Addr} {xs : List V} {o : HO} (h : RuleAt H v r) (hD : H D = some (.lst xs)) : RuleAt (upd H D o) v r := by
  have ne : ∀ {b : Addr} {u : HO}, H b = some u → u ≠ .lst xs → b ≠ D := fun e n z => by
    rw [z, hD] at e
    exact n (Option.some.inj e).symm
  have pr : ∀ {t : Addr} {ps : List (Str × Int)}, PairsAt H t ps → PairsAt (upd H D o) t ps := fun ⟨vs, ⟨u, d, e⟩, p⟩ =>
    ⟨vs, ⟨u, d, by rw [upd_ne (ne e (fun z => by cases z))]; exact e⟩, paired_mono (fun _ _ ⟨a, e1, e2⟩ => ⟨a, e1, by rw [upd_ne (ne e2 (fun z => by cases z))]; exact e2⟩) p⟩
  obtain ⟨t, wt, gt, e, h, h1, h2⟩ := h
  exact ⟨t, wt, gt, e, by rw [upd_ne (ne h (fun z => by cases z))]; exact h, pr h1, pr h2⟩
theorem refs_of_rules {H : Hp} : ∀ {vs : List V} {rs : List Rl}, Paired (RuleAt H) vs rs → ∃ as : List Addr, vs = as.map V.ref
  | _, _, .nil => ⟨[], rfl⟩
  | _, _, .cons ⟨a, _, _, e, _⟩ r => by
    obtain ⟨as, h⟩ := refs_of_rules r
    exact ⟨a :: as, by rw [e, h]; rfl⟩
theorem nd_rules {H : Hp} {vs : List V} {rs : List Rl} (h : Paired (RuleAt H) vs rs) : Nd (.lst vs) := by
  obtain ⟨as, rfl⟩ := refs_of_rules h
  exact nd_refs
theorem inV_mem {n : Str} : ∀ {ns : List Str}, inV (.str n) (ns.map V.str) = decide (n ∈ ns)
  | [] => by simp [inV]
  | m :: ns => by
    have ih := inV_mem (n := n) (ns := ns)
    unfold inV at ih ⊢
    rw [List.map_cons, List.any_cons, ih]
    by_cases e : n = m
    · subst e
      simp [eqV]
    · have e' : ¬ m = n := fun z => e z.symm
      simp [eqV, e, e']
/-- the pairs at a place of a rule -/
def prF (r : Rl) (pl : Int) : List (Str × Int) := if pl = 3 then r.ws else r.gs
/-- the names at a place of the rules, in order, each once -/
structure NmF (rs : List Rl) (pl : Int) (ys : List Str) : Prop where
  nd : ys.Nodup
  so : sortedS ys = true
  me : ∀ x, x ∈ ys ↔ ∃ r ∈ rs, x ∈ (prF r pl).map (·.1)
  le : ys.length ≤ 3 * rs.length
theorem NmF.one {rs : List Rl} {pl : Int} {ys zs : List Str} (h : NmF rs pl ys) (h' : NmF rs pl zs) : ys = zs := sorted_one h.nd h'.nd h.so h'.so fun x => (h.me x).trans (h'.me x).symm
structure Rls (rs : List Rl) : Prop where
  n1 : 1 ≤ rs.length
  n12 : rs.length ≤ 12
  ok : ∀ r ∈ rs, OkR r
theorem Rls.pr {rs : List Rl} (h : Rls rs) {r : Rl} (hr : r ∈ rs) (pl : Int) : 1 ≤ (prF r pl).length ∧ (prF r pl).length ≤ 3 ∧ ((prF r pl).map (·.1)).Nodup ∧ ∀ p ∈ prF r pl, Good p.1 := by
  have o := h.ok r hr
  unfold prF
  split
  · exact ⟨o.w1, o.w3, o.wn, o.wg⟩
  · exact ⟨o.g1, o.g3, o.gn, o.gg⟩
section
variable {P : Program} {w : World} {K : PySem.W.Frag} {mg : Str → Option Value} {base : Heap}
def spAr : Sp := fun vs H Q _ => ∃ (p l : Addr), vs = [.ref p] ∧ Deal H p l ∧ ∀ (H' : Hp) (a : Addr) (vr : List V) (rs : List Rl), Kp H H' → Deal H' p l → H' a = some (.lst vr) → Paired (RuleAt H') vr rs → Rls rs → Q (.ref a) H'
abbrev nmAr : List Str := ["_law_deal_here", "_law_ins", "_law_outs", "_law_k"]
theorem scAr : FnScope nmAr ["_law_deal_here"] (defScope sAr) := ⟨rfl, rfl, rfl, by decide +kernel, rfl, by decide +kernel, by decide +kernel⟩
theorem ok_ar {f fK fO fN fR : Addr} {fd fdK fdO fdN fdR : FuncData} {k : Nat} (F : Fun K "_law_any_rules" "_law_any_rules" sAr f fd)
    (GK : FnOk P w K mg base CX0 k fK fdK ["_law_deal_here", "_law_many"] spPick) (kK : PySem.W.keepIn K (.ref fK) = true) (bK : Binds K fdK ["_law_deal_here", "_law_many"] []) (gK : mg "_law_pick" = some (.ref fK))
    (GO : FnOk P w K mg base CX0 k fO fdO ["_law_deal_here", "_law_some"] spOf) (kO : PySem.W.keepIn K (.ref fO) = true) (bO : Binds K fdO ["_law_deal_here", "_law_some"] []) (gO : mg "_law_of" = some (.ref fO))
    (GN : FnOk P w K mg base CX0 k fN fdN ["_law_deal_here", "_law_many"] spNames) (kN : PySem.W.keepIn K (.ref fN) = true) (bN : Binds K fdN ["_law_deal_here", "_law_many"] []) (gN : mg "_law_names" = some (.ref fN))
    (GR : FnOk P w K mg base CX0 k fR fdR ["_law_deal_here", "_law_ins", "_law_outs"] spFr) (kR : PySem.W.keepIn K (.ref fR) = true) (bR : Binds K fdR ["_law_deal_here", "_law_ins", "_law_outs"] []) (gR : mg "_law_full_rule" = some (.ref fR)) (B : Bi mg) :
    FnOk P w K mg base CX0 (k + 1) f fd ["_law_deal_here"] spAr := by
  refine F.ok scAr (fun vs H Q E h => ?_) (fun cdv A outer s H vs Q E hr h => ?_)
  · obtain ⟨p, l, rfl, _⟩ := h
    rfl
  · obtain ⟨p, l, rfl, dl, q⟩ := h
    refine ⟨_, (pss_cons (ps_asg (pe_tup (pa_cons (pe_call GN hr (by rfl) gN kN bN .nil pass0 (pa_cons (pv 0) (pa_cons (pe_op op_add pe_int (pe_call GK hr (by rfl) gK kK bK .nil pass0 (pa_cons (pv 0) (pa_cons pe_int pa_nil)))) pa_nil))) (pa_cons (pe_call GN hr (by rfl) gN kN bN .nil pass0 (pa_cons (pv 0) (pa_cons (pe_op op_add pe_int (pe_call GK hr (by rfl) gK kK bK .nil pass0 (pa_cons (pv 0) (pa_cons pe_int pa_nil)))) pa_nil))) pa_nil))) (pg_tup rfl (pgs_cons (pg_name (i := 1) scAr.nd rfl (.inr rfl)) (pgs_cons (pg_name (i := 2) scAr.nd rfl (.inr rfl)) pgs_nil))))
        (pss_one (ps_ret (pe_lc (own := [("_law_k", 3)]) (g := gName 3) (tt := tYes) rfl scAr.nd (pi_range1 (by rfl) B.rng (pa_cons (pe_call GO hr (by rfl) gO kO bO .nil pass0 (pa_cons (pv 0) (pa_cons (pe_lst (pa_cons pe_int (pa_cons pe_int (pa_cons pe_int (pa_cons pe_int (pa_cons pe_int (pa_cons (pe_op op_add pe_int (pe_call GK hr (by rfl) gK kK bK .nil pass0 (pa_cons (pv 0) (pa_cons pe_int pa_nil)))) pa_nil))))))) pa_nil))) pa_nil)) (blkOk_by (own := [("_law_k", 3)]) (N := nmAr) (sc := defScope sAr) (by decide +kernel)) (fun _ _ _ _ _ => (pg_name (i := 3) scAr.nd rfl (Or.inl rfl))) (fun _ _ _ _ _ => pts_nil) (fun _ _ _ _ _ => (pe_call GR hr (by rfl) gR kR bR .nil pass0 (pa_cons (pv 0) (pa_cons (pv 1) (pa_cons (pv 2) pa_nil))))))))), ?_⟩
    refine ⟨_, rfl, _, rfl, p, l, 3, rfl, dl, by decide, lg (b := 11) (by decide) (by decide) (by decide), fun H1 r1 k1 dl1 a0 a1 => ?_⟩
    refine ⟨_, _, rfl, rfl, ?_⟩
    obtain ⟨m1, e1⟩ : ∃ m1 : Nat, 1 + r1 = (m1 : Int) := ⟨(1 + r1).toNat, by omega⟩
    refine ⟨p, l, m1, by dsimp only [List.append_nil]; rw [e1]; rfl, dl1, by omega, fun H2 i ins k2 dl2 ni hi li ind ig => ?_⟩
    refine ⟨_, rfl, _, rfl, p, l, 3, rfl, dl2, by decide, lg (b := 11) (by decide) (by decide) (by decide), fun H3 r3 k3 dl3 b0 b1 => ?_⟩
    refine ⟨_, _, rfl, rfl, ?_⟩
    obtain ⟨m3, e3⟩ : ∃ m3 : Nat, 1 + r3 = (m3 : Int) := ⟨(1 + r3).toNat, by omega⟩
    refine ⟨p, l, m3, by dsimp only [List.append_nil]; rw [e3]; rfl, dl3, by omega, fun H4 o outs k4 dl4 no ho lo ond og => ?_⟩
    refine ⟨(by show 2 ≤ sizeLine; decide), fun T nT => ?_⟩
    have sT := same_upd (o := .tup [.ref i, .ref o]) nT
    refine ⟨T, _, rfl, SqT.of upd_same, rfl, _, _, rfl, _, _, rfl, rfl, ?_⟩
    have kT := ((k1.trans k2).trans (k3.trans k4)).trans (Kp.of sT)
    have dT := dl4.same sT
    have hiT := (((k3.trans k4).trans (Kp.of sT)).keep _ _ nd_strs hi)
    have hoT := sT _ _ ho
    generalize (upd H4 T (.tup [.ref i, .ref o])) = H5 at *
    -- how many
    refine ⟨_, rfl, _, rfl, p, l, 12, rfl, dT, by decide, lg (b := 11) (by decide) (by decide) (by decide), fun H6 r6 k6 dl6 c0 c1 => ?_⟩
    refine ⟨_, _, rfl, rfl, (by show 6 ≤ sizeLine; decide), fun c nc => ?_⟩
    have sc := same_upd (o := .lst [V.int 1, V.int 1, V.int 2, V.int 3, V.int 12, V.int (1 + r6)]) nc
    refine ⟨p, l, c, [V.int 1, V.int 1, V.int 2, V.int 3, V.int 12, V.int (1 + r6)], rfl, dl6.same sc, upd_same, nd_lst (fun x r e a => by cases e; intro z; cases z), (by show 0 < 6; decide), (by show 6 ≤ 1000; decide), fun H7 x7 hx7 k7 dl7 => ?_⟩
    obtain ⟨n, rfl, n1, n12⟩ : ∃ n : Nat, x7 = .int (n : Int) ∧ 1 ≤ n ∧ n ≤ 12 := by
      simp only [List.mem_cons, List.not_mem_nil, or_false] at hx7
      rcases hx7 with rfl | rfl | rfl | rfl | rfl | rfl
      · exact ⟨1, rfl, by omega, by omega⟩
      · exact ⟨1, rfl, by omega, by omega⟩
      · exact ⟨2, rfl, by omega, by omega⟩
      · exact ⟨3, rfl, by omega, by omega⟩
      · exact ⟨12, rfl, by omega, by omega⟩
      · exact ⟨(1 + r6).toNat, by rw [Int.toNat_of_nonneg (by omega)], by omega, by omega⟩
    have k57 := k6.trans ((Kp.of sc).trans k7)
    have hi7 := k57.keep _ _ nd_strs hiT
    have ho7 := k57.keep _ _ nd_strs hoT
    refine ⟨(n : Int), rfl, by omega, by omega, fun D nD => ?_⟩
    have sD := same_upd (o := .lst []) nD
    have np := dl7.ne nD
    have nl := dl7.nl nD
    refine lc_range (lo := 0) (n := n) (fun j H' => ∃ (vr : List V) (rs : List Rl), Kp H7 H' ∧ Deal H' p l ∧ H' D = some (.lst vr) ∧ Paired (RuleAt H') vr rs ∧ rs.length = j ∧ ∀ r ∈ rs, OkR r)
      ⟨[], [], Kp.of sD, dl7.same sD, upd_same, .nil, rfl, (fun r hr => nomatch hr)⟩ ?_ ?_
    · rintro j H' hj ⟨vr, rs, kp', dl', hD, pp, lr, okr⟩
      refine ⟨rfl, ?_⟩
      refine ⟨_, rfl, _, rfl, _, rfl, p, l, i, o, ins, outs, rfl, dl', kp'.keep _ _ nd_strs hi7, kp'.keep _ _ nd_strs ho7, by omega, by omega, by omega, by omega, ind, ond, ig, og, fun H2 v r k2 dl2 ra ok => ?_⟩
      have hD2 := k2.keep _ _ (nd_rules pp) hD
      have lv := pp.length
      refine ⟨_, hD2, small1000 (by omega), vr ++ [v], rs ++ [r], (kp'.trans k2).put nD, dl2.put np nl, upd_same, ?_, ?_, ?_⟩
      · exact paired_snoc (paired_mono (fun _ _ h => (h.kp k2).put hD2) pp) (ra.put hD2)
      · rw [List.length_append, List.length_singleton, lr]
      · intro z hz
        rcases List.mem_append.mp hz with h | h
        · exact okr z h
        · rw [List.mem_singleton.mp h]
          exact ok
    · rintro H' ⟨vr, rs, kp', dl', hD, pp, lr, okr⟩
      exact q H' D vr rs ((kT.trans k57).trans kp') dl' hD pp ⟨by omega, by omega, okr⟩
/-! _law_names_of -/
def spNo (K : PySem.W.Frag) : Sp := fun vs H Q _ => ∃ (a : Addr) (vr : List V) (rs : List Rl) (pl : Int), vs = [.ref a, .int pl] ∧ SqL K H a vr ∧ Paired (RuleAt H) vr rs ∧ Rls rs ∧ (pl = 3 ∨ pl = 4) ∧ ∀ (H' : Hp) (q : Addr) (ys : List Str), Same H H' → H q = none → H' q = some (.lst (ys.map V.str)) → NmF rs pl ys → Q (.ref q) H'
abbrev nmNo : List Str := ["_law_given_rules", "_law_place", "_law_found", "_law_rule", "_law_name", "_law_size"]
theorem scNo : FnScope nmNo ["_law_given_rules", "_law_place"] (defScope sNo) := ⟨rfl, rfl, rfl, by decide +kernel, rfl, by decide +kernel, by decide +kernel⟩
theorem ok_no {f : Addr} {fd : FuncData} {k : Nat} (F : Fun K "_law_names_of" "_law_names_of" sNo f fd) (B : Bi mg) (J : Bj mg) : FnOk P w K mg base CX0 (k + 1) f fd ["_law_given_rules", "_law_place"] (spNo K) := by
  refine F.ok scNo (fun vs H Q E h => ?_) (fun cdv A outer s H vs Q E hr h => ?_)
  · obtain ⟨a, vr, rs, pl, rfl, _⟩ := h
    rfl
  · obtain ⟨a, vr, rs, pl, rfl, ha, hR, rls, hpl, q⟩ := h
    refine ⟨_, (pss_cons (ps_set (i := 2) scNo.nd rfl (.inr rfl) (pe_lst pa_nil))
        (pss_cons (ps_for PassesOwn.never rfl (pi_list (pv 0)) (pg_name (i := 3) scNo.nd rfl (.inl rfl))
          (pss_one (ps_set (i := 2) scNo.nd rfl (.inr rfl) (pe_op op_cat (pv 2) (pe_lc (own := [("_law_name", 4), ("_law_size", 5)]) (g := gTup K 2 (gCons (gName 4) (gCons (gName 5) gNil))) (tt := (tTest (tOp (rIn K true) (tVar 4) (tVar 2)))) rfl scNo.nd (pi_tup (pe_ix ix_tup (pv 3) (pv 1) (fun _ _ => rfl))) (blkOk_by (own := [("_law_name", 4), ("_law_size", 5)]) (N := nmNo) (sc := defScope sNo) (by decide +kernel)) (fun _ _ _ _ _ => (pg_tup rfl (pgs_cons (pg_name (i := 4) scNo.nd rfl (Or.inl rfl)) (pgs_cons (pg_name (i := 5) scNo.nd rfl (Or.inl rfl)) pgs_nil)))) (fun _ _ _ _ _ => pts_one (pt_cmpR op_notIn_seq (pv 4) (pv 2) (by rfl))) (fun _ _ _ _ _ => (pv 4)))))))
        (pss_one (ps_ret (pe_callB cr_sortedS (by rfl) J.sorted (by decide +kernel) (pa_cons (pv 2) pa_nil)))))), ?_⟩
    refine ⟨Nat.zero_le _, fun u0 nu0 => ?_⟩
    have su0 := same_upd (o := .lst []) nu0
    have lr := hR.length
    have n12 := rls.n12
    refine ⟨_, rfl, a, rfl, ⟨_, su0.seq ha⟩, ?_⟩
    refine for_list (K := K) (a := a) (xs := vr) (fun j σ H' => ∃ (v3 : Option V) (u : Addr) (fs : List Str), σ = [some (.ref a), some (.int pl), some (.ref u), v3, none, none] ∧ Same H H' ∧ H u = none ∧ H' u = some (.lst (fs.map V.str)) ∧ fs.Nodup ∧ (∀ x, x ∈ fs ↔ ∃ r ∈ rs.take j, x ∈ (prF r pl).map (·.1)) ∧ fs.length ≤ 3 * j)
      ⟨none, u0, [], rfl, su0, nu0, upd_same, List.nodup_nil, (fun x => ⟨fun h => absurd h List.not_mem_nil, fun ⟨r, hr, _⟩ => by rw [List.take_zero] at hr; exact absurd hr List.not_mem_nil⟩), Nat.zero_le _⟩ (fun j σ H' _ ⟨_, _, _, _, sm, _⟩ => sm.seq ha) ?_ ?_
    · rintro j x σ H1 hx ⟨v3, u, fs, rfl, sm, nu, hu, fnd, fme, fl⟩
      obtain ⟨r, hr', ra⟩ := paired_get hR j x hx
      have hjl := (List.getElem?_eq_some_iff.mp hr').1
      have hrm : r ∈ rs := List.mem_of_getElem? hr'
      obtain ⟨pr1, pr3, prn, prg⟩ := rls.pr hrm pl
      obtain ⟨t, wt', gt, rfl, ht, hw, hg⟩ := ra
      obtain ⟨pt, vs, hget, hps, hpp⟩ : ∃ (pt : Addr) (vs : List V), atI [V.str "each", .int r.e, .int r.a, .ref wt', .ref gt, moV r.m] pl = some (.ref pt) ∧ TupN H pt vs ∧ Paired (PairAt H) vs (prF r pl) := by
        rcases hpl with rfl | rfl
        · obtain ⟨vs, h1, h2⟩ := hw
          exact ⟨wt', vs, atI_nat (j := 3) rfl, h1, h2⟩
        · obtain ⟨vs, h1, h2⟩ := hg
          exact ⟨gt, vs, atI_nat (j := 4) rfl, h1, h2⟩
      have lv := hpp.length
      refine ⟨_, rfl, _, rfl, _, rfl, t, _, pl, _, rfl, rfl, SqT.of (sm _ _ ht), hget, pt, rfl, ⟨_, .inl (hps.same sm).rd⟩, fun D nD => ?_⟩
      have sD := same_upd (o := .lst []) nD
      refine lc_tup (K := K) (a := pt) (xs := vs) (fun i H' => Same H1 H' ∧ H' D = some (.lst ((((prF r pl).take i).map (·.1)).filter (fun x => decide (x ∉ fs)) |>.map V.str))) ⟨sD, upd_same⟩ (fun i H' _ ⟨sm', _⟩ => .inl (hps.same (sm.trans sm')).rd) ?_ ?_
      · rintro i x H' hx' ⟨sm', hD⟩
        obtain ⟨p, hpi, b, rfl, hb⟩ := paired_get hpp i x hx'
        refine ⟨b, _, rfl, SqT.of (sm' _ _ (sm _ _ hb)), rfl, _, _, rfl, _, _, rfl, rfl, ?_⟩
        refine ⟨rfl, ?_⟩
        refine ⟨_, rfl, _, rfl, u, _, rfl, .inl (SqL.of (sm' _ _ hu)), rfl, strs_flat _, _, rfl, ?_⟩
        show if (!inV (V.str p.1) (fs.map V.str)) = true then _ else _
        rw [inV_mem]
        have lf : ((((prF r pl).take i).map (·.1)).filter (fun x => decide (x ∉ fs))).length ≤ 3 := by
          refine Nat.le_trans (List.length_filter_le _ _) ?_
          rw [List.length_map, List.length_take]
          omega
        by_cases e : p.1 ∈ fs
        · rw [if_neg (by simp [e])]
          refine ⟨sm', ?_⟩
          rw [hD, List.take_add_one, hpi]
          simp [e]
        · rw [if_pos (by simp [e])]
          refine ⟨_, rfl, _, hD, ?_, sm'.put nD, ?_⟩
          · rw [List.length_map]
            exact small1000 (by omega)
          · rw [upd_same, List.take_add_one, hpi]
            simp [e]
      · rintro H' ⟨sm', hD⟩
        rw [lv, List.take_length] at hD
        have lf : (((prF r pl).map (·.1)).filter (fun x => decide (x ∉ fs))).length ≤ 3 := by
          refine Nat.le_trans (List.length_filter_le _ _) ?_
          rw [List.length_map]
          omega
        refine ⟨u, D, _, _, rfl, rfl, sm' _ _ hu, hD, ?_, fun u2 nu2 => ?_⟩
        · rw [List.length_map, List.length_map]
          exact Nat.le_of_lt (small1000 (by omega))
        have s2 := same_upd (o := .lst (fs.map V.str ++ (((prF r pl).map (·.1)).filter (fun x => decide (x ∉ fs))).map V.str)) nu2
        refine ⟨_, u2, fs ++ ((prF r pl).map (·.1)).filter (fun x => decide (x ∉ fs)), rfl, (sm.trans sm').trans s2, (sm.trans sm').free nu2, ?_, ?_, fun x => ?_, ?_⟩
        · rw [upd_same, List.map_append]
        · refine List.nodup_append.mpr ⟨fnd, prn.filter _, fun a ha b hb e => ?_⟩
          have h1 := of_decide_eq_true (List.mem_filter.mp hb).2
          exact h1 (e ▸ ha)
        · rw [List.mem_append, fme x, List.mem_filter, List.take_add_one, hr']
          constructor
          · rintro (⟨r', h1, h2⟩ | ⟨h1, _⟩)
            · exact ⟨r', List.mem_append_left _ h1, h2⟩
            · exact ⟨r, List.mem_append_right _ List.mem_cons_self, h1⟩
          · rintro ⟨r', h1, h2⟩
            rcases List.mem_append.mp h1 with h1 | h1
            · exact .inl ⟨r', h1, h2⟩
            · have : r' = r := by simpa using h1
              subst this
              by_cases e : x ∈ fs
              · exact .inl ((fme x).mp e)
              · exact .inr ⟨h2, decide_eq_true e⟩
        · rw [List.length_append]
          omega
    · rintro σ H1 ⟨v3, u, fs, rfl, sm, nu, hu, fnd, fme, fl⟩
      rw [lr, List.take_length] at fme
      refine ⟨_, rfl, u, fs, rfl, SqL.of hu, by omega, fun ys q1 pm so nq1 => ?_⟩
      exact q _ q1 ys (sm.trans (same_upd nq1)) (sm.free nq1) upd_same ⟨pm.nodup_iff.mpr fnd, so, fun x => pm.mem_iff.trans (fme x), by rw [pm.length_eq]; omega⟩
end
end Hl

set_option Elab.async false
set_option linter.all false
set_option maxRecDepth 100000
set_option maxHeartbeats 4000000
namespace Hl
open PySem PySem.Spec PyProof.Rows L2
theorem wipe_set {σ : L2.St} {i : Nat} {v : Option V} : ∀ {vs : List Nat}, i ∈ vs → wipe (σ.set i v) vs = wipe σ vs
  | j :: vs, h => by
    by_cases e : i ∈ vs
    · show (wipe (σ.set i v) vs).set j none = (wipe σ vs).set j none
      rw [wipe_set e]
    · have ij : i = j := (List.mem_cons.mp h).resolve_right e
      subst ij
      show (wipe (σ.set i v) vs).set i none = (wipe σ vs).set i none
      have key : ∀ (us : List Nat), (wipe (σ.set i v) us).set i none = (wipe σ us).set i none := by
        intro us
        induction us with
        | nil =>
          show (σ.set i v).set i none = σ.set i none
          rw [List.set_set]
        | cons a us ih =>
          show ((wipe (σ.set i v) us).set a none).set i none = ((wipe σ us).set a none).set i none
          by_cases ai : a = i
          · subst ai
            rw [List.set_set, List.set_set]
            exact ih
          · rw [List.set_comm _ _ ai, List.set_comm _ _ ai, ih]
      exact key vs
theorem wipe_wipe {σ : L2.St} {vs : List Nat} : wipe (wipe σ vs) vs = wipe σ vs := by
  have h : ∀ us : List Nat, (∀ i ∈ us, i ∈ vs) → wipe (wipe σ us) vs = wipe σ vs := by
    intro us
    induction us with
    | nil => intro _; rfl
    | cons a us ih =>
      intro h
      show wipe ((wipe σ us).set a none) vs = _
      rw [wipe_set (h a List.mem_cons_self)]
      exact ih fun i hi => h i (List.mem_cons_of_mem _ hi)
  exact h vs fun _ hi => hi
section
variable {P : Program} {w : World} {K : PySem.W.Frag} {mg : Str → Option Value} {base : Heap}
/-- the names at a place of the rules -/
def spNs (K : PySem.W.Frag) (pl : Int) : Sp := fun vs H Q _ => ∃ (a : Addr) (vr : List V) (rs : List Rl), vs = [.ref a] ∧ SqL K H a vr ∧ Paired (RuleAt H) vr rs ∧ Rls rs ∧ ∀ (H' : Hp) (q : Addr) (ys : List Str), Same H H' → H q = none → H' q = some (.lst (ys.map V.str)) → NmF rs pl ys → Q (.ref q) H'
abbrev sLo : Stmt := topS 23
abbrev nmLo : List Str := ["rules", "word", "every", "after", "weights", "gives", "most", "name", "weight"]
theorem scLo : FnScope nmLo ["rules"] (defScope sLo) := ⟨rfl, rfl, rfl, by decide +kernel, rfl, by decide +kernel, by decide +kernel⟩
theorem ok_lo {f : Addr} {fd : FuncData} {k : Nat} (F : Fun K "letters_of" "letters_of" sLo f fd) (J : Bj mg) : FnOk P w K mg base CX0 (k + 1) f fd ["rules"] (spNs K 3) := by
  refine F.ok scLo (fun vs H Q E h => ?_) (fun cdv A outer s H vs Q E hr h => ?_)
  · obtain ⟨a, vr, rs, rfl, _⟩ := h
    rfl
  · obtain ⟨a, vr, rs, rfl, ha, hR, rls, q⟩ := h
    refine ⟨_, (pss_one (ps_ret (pe_callB (r := Stx.rSortedTx P w) (Stx.cr_sortedTx rfl) (by rfl) J.sorted (by decide +kernel) (pa_cons (Stx.pe_scT2 (own := [("word", 1), ("every", 2), ("after", 3), ("weights", 4), ("gives", 5), ("most", 6), ("name", 7), ("weight", 8)]) (vs1 := [7, 8]) (g := gTup K 6 (gCons (gName 1) (gCons (gName 2) (gCons (gName 3) (gCons (gName 4) (gCons (gName 5) (gCons (gName 6) gNil))))))) (g1 := gTup K 2 (gCons (gName 7) (gCons (gName 8) gNil))) (tt := tYes) (tt1 := tYes) (wi1 := (iTup K (tVar 4))) (te := tVar 7) rfl scLo.nd (pi_list (pv 0)) (blkOk_by (own := [("word", 1), ("every", 2), ("after", 3), ("weights", 4), ("gives", 5), ("most", 6), ("name", 7), ("weight", 8)]) (N := nmLo) (sc := defScope sLo) (by decide +kernel)) (by decide) (fun _ _ _ _ _ => (pg_tup rfl (pgs_cons (pg_name (i := 1) scLo.nd rfl (Or.inl rfl)) (pgs_cons (pg_name (i := 2) scLo.nd rfl (Or.inl rfl)) (pgs_cons (pg_name (i := 3) scLo.nd rfl (Or.inl rfl)) (pgs_cons (pg_name (i := 4) scLo.nd rfl (Or.inl rfl)) (pgs_cons (pg_name (i := 5) scLo.nd rfl (Or.inl rfl)) (pgs_cons (pg_name (i := 6) scLo.nd rfl (Or.inl rfl)) pgs_nil)))))))) (fun _ _ _ _ _ => pts_nil) (fun _ _ _ _ _ => (pi_tup (pv 4))) (fun _ _ _ _ _ => (pg_tup rfl (pgs_cons (pg_name (i := 7) scLo.nd rfl (Or.inl rfl)) (pgs_cons (pg_name (i := 8) scLo.nd rfl (Or.inl rfl)) pgs_nil)))) (fun _ _ _ _ _ => pts_nil) (fun _ _ _ _ _ => (pv 7))) pa_nil)))), ?_⟩
    have lr := hR.length
    have n12 := rls.n12
    refine ⟨_, rfl, a, rfl, ⟨_, ha⟩, fun D nD => ?_⟩
    have sD := same_upd (o := Stx.SetSO P w D []) nD
    refine Stx.trn_list (K := K) (a := a) (xs := vr) (fun j H' => ∃ fs : List Str, Same H H' ∧ H' D = some (Stx.SetSO P w D fs) ∧ fs.Nodup ∧ (∀ x, x ∈ fs ↔ ∃ r ∈ rs.take j, x ∈ (prF r 3).map (·.1)) ∧ fs.length ≤ 3 * j)
      ⟨[], sD, upd_same, List.nodup_nil, (fun x => ⟨fun h => absurd h List.not_mem_nil, fun ⟨r, hr, _⟩ => by rw [List.take_zero] at hr; exact absurd hr List.not_mem_nil⟩), Nat.zero_le _⟩ (fun j H' _ ⟨_, sm, _⟩ => sm.seq ha) ?_ ?_
    · rintro j x H1 hx ⟨fs, sm, hD, fnd, fme, fl⟩
      obtain ⟨r, hr', ra⟩ := paired_get hR j x hx
      have hjl := (List.getElem?_eq_some_iff.mp hr').1
      have hrm : r ∈ rs := List.mem_of_getElem? hr'
      obtain ⟨pr1, pr3, prn, prg⟩ := rls.pr hrm 3
      obtain ⟨t, wt', gt, rfl, ht, hw, hg⟩ := ra
      obtain ⟨vs, hps, hpp⟩ : ∃ vs : List V, TupN H wt' vs ∧ Paired (PairAt H) vs (prF r 3) := hw
      have lv := hpp.length
      refine ⟨t, _, rfl, SqT.of (sm _ _ ht), rfl, _, _, rfl, _, _, rfl, _, _, rfl, _, _, rfl, _, _, rfl, _, _, rfl, rfl, ?_⟩
      refine ⟨by rw [wipe_set (by decide), wipe_set (by decide), wipe_set (by decide), wipe_set (by decide), wipe_set (by decide), wipe_set (by decide), wipe_wipe], ?_⟩
      refine ⟨.ref wt', (by rw [List.getElem?_set_ne (by decide), List.getElem?_set_ne (by decide), List.getElem?_set_self (by rw [List.length_set, List.length_set, List.length_set, wipe_length]; exact (by decide : 4 < 9))]), wt', rfl, ⟨_, .inl (hps.same sm).rd⟩, ?_⟩
      refine Stx.trn_tup (K := K) (a := wt') (xs := vs) (fun i H' => ∃ gs : List Str, Same H H' ∧ H' D = some (Stx.SetSO P w D gs) ∧ gs.Nodup ∧ (∀ x, x ∈ gs ↔ x ∈ fs ∨ x ∈ ((prF r 3).take i).map (·.1)) ∧ gs.length ≤ 3 * j + i)
        ⟨fs, sm, hD, fnd, (fun x => ⟨.inl, fun h => h.elim id fun h => by rw [List.take_zero] at h; exact absurd h List.not_mem_nil⟩), fl⟩ (fun i H' _ ⟨_, sm', _⟩ => .inl (hps.same sm').rd) ?_ ?_
      · rintro i x H' hx' ⟨gs, sm', hD', gnd, gme, gl⟩
        obtain ⟨p, hpi, b, rfl, hb⟩ := paired_get hpp i x hx'
        have hil := (List.getElem?_eq_some_iff.mp hpi).1
        refine ⟨b, _, rfl, SqT.of (sm' _ _ hb), rfl, _, _, rfl, _, _, rfl, rfl, ?_⟩
        refine ⟨by rw [wipe_set (by decide), wipe_set (by decide), wipe_wipe], ?_⟩
        refine ⟨.str p.1, (by rw [List.getElem?_set_ne (by decide), List.getElem?_set_self (by rw [wipe_length, List.length_set, List.length_set, List.length_set, List.length_set, List.length_set, List.length_set, wipe_length]; exact (by decide : 7 < 9))]), p.1, gs, rfl, hD', ?_, Stx.addS p.1 gs, sm'.put nD, upd_same, Stx.nodup_addS gnd, fun x => ?_, ?_⟩
        · show gs.length + 1 < scanBound
          unfold scanBound
          omega
        · rw [Stx.mem_addS, gme x, List.take_add_one, hpi]
          simp only [List.map_append, List.mem_append, Option.toList_some, List.map_cons, List.map_nil, List.mem_singleton]
          constructor
          · rintro (h | h | h)
            · exact .inr (.inr h)
            · exact .inl h
            · exact .inr (.inl h)
          · rintro (h | h | h)
            · exact .inr (.inl h)
            · exact .inr (.inr h)
            · exact .inl h
        · have := Stx.addS_len p.1 gs
          omega
      · rintro H' ⟨gs, sm', hD', gnd, gme, gl⟩
        rw [lv] at gme gl
        rw [List.take_length] at gme
        refine ⟨gs, sm', hD', gnd, fun x => ?_, by omega⟩
        rw [gme x, fme x, List.take_add_one, hr']
        constructor
        · rintro (⟨r', h1, h2⟩ | h)
          · exact ⟨r', List.mem_append_left _ h1, h2⟩
          · exact ⟨r, List.mem_append_right _ List.mem_cons_self, h⟩
        · rintro ⟨r', h1, h2⟩
          rcases List.mem_append.mp h1 with h1 | h1
          · exact .inl ⟨r', h1, h2⟩
          · have : r' = r := by simpa using h1
            subst this
            exact .inr h2
    · rintro H1 ⟨fs, sm, hD, fnd, fme, fl⟩
      rw [lr, List.take_length] at fme
      refine ⟨D, fs, rfl, hD, by omega, fun ss p pm so np => ?_⟩
      exact q _ p ss (sm.trans (same_upd np)) (sm.free np) upd_same ⟨pm.nodup_iff.mpr fnd, so, fun x => pm.mem_iff.trans (fme x), by rw [pm.length_eq]; omega⟩
abbrev sOo : Stmt := topS 24
abbrev nmOo : List Str := ["rules", "word", "every", "after", "weights", "gives", "most", "name", "many"]
theorem scOo : FnScope nmOo ["rules"] (defScope sOo) := ⟨rfl, rfl, rfl, by decide +kernel, rfl, by decide +kernel, by decide +kernel⟩
theorem ok_oo {f : Addr} {fd : FuncData} {k : Nat} (F : Fun K "outlets_of" "outlets_of" sOo f fd) (J : Bj mg) : FnOk P w K mg base CX0 (k + 1) f fd ["rules"] (spNs K 4) := by
  refine F.ok scOo (fun vs H Q E h => ?_) (fun cdv A outer s H vs Q E hr h => ?_)
  · obtain ⟨a, vr, rs, rfl, _⟩ := h
    rfl
  · obtain ⟨a, vr, rs, rfl, ha, hR, rls, q⟩ := h
    refine ⟨_, (pss_one (ps_ret (pe_callB (r := Stx.rSortedTx P w) (Stx.cr_sortedTx rfl) (by rfl) J.sorted (by decide +kernel) (pa_cons (Stx.pe_scT2 (own := [("word", 1), ("every", 2), ("after", 3), ("weights", 4), ("gives", 5), ("most", 6), ("name", 7), ("many", 8)]) (vs1 := [7, 8]) (g := gTup K 6 (gCons (gName 1) (gCons (gName 2) (gCons (gName 3) (gCons (gName 4) (gCons (gName 5) (gCons (gName 6) gNil))))))) (g1 := gTup K 2 (gCons (gName 7) (gCons (gName 8) gNil))) (tt := tYes) (tt1 := tYes) (wi1 := (iTup K (tVar 5))) (te := tVar 7) rfl scOo.nd (pi_list (pv 0)) (blkOk_by (own := [("word", 1), ("every", 2), ("after", 3), ("weights", 4), ("gives", 5), ("most", 6), ("name", 7), ("many", 8)]) (N := nmOo) (sc := defScope sOo) (by decide +kernel)) (by decide) (fun _ _ _ _ _ => (pg_tup rfl (pgs_cons (pg_name (i := 1) scOo.nd rfl (Or.inl rfl)) (pgs_cons (pg_name (i := 2) scOo.nd rfl (Or.inl rfl)) (pgs_cons (pg_name (i := 3) scOo.nd rfl (Or.inl rfl)) (pgs_cons (pg_name (i := 4) scOo.nd rfl (Or.inl rfl)) (pgs_cons (pg_name (i := 5) scOo.nd rfl (Or.inl rfl)) (pgs_cons (pg_name (i := 6) scOo.nd rfl (Or.inl rfl)) pgs_nil)))))))) (fun _ _ _ _ _ => pts_nil) (fun _ _ _ _ _ => (pi_tup (pv 5))) (fun _ _ _ _ _ => (pg_tup rfl (pgs_cons (pg_name (i := 7) scOo.nd rfl (Or.inl rfl)) (pgs_cons (pg_name (i := 8) scOo.nd rfl (Or.inl rfl)) pgs_nil)))) (fun _ _ _ _ _ => pts_nil) (fun _ _ _ _ _ => (pv 7))) pa_nil)))), ?_⟩
    have lr := hR.length
    have n12 := rls.n12
    refine ⟨_, rfl, a, rfl, ⟨_, ha⟩, fun D nD => ?_⟩
    have sD := same_upd (o := Stx.SetSO P w D []) nD
    refine Stx.trn_list (K := K) (a := a) (xs := vr) (fun j H' => ∃ fs : List Str, Same H H' ∧ H' D = some (Stx.SetSO P w D fs) ∧ fs.Nodup ∧ (∀ x, x ∈ fs ↔ ∃ r ∈ rs.take j, x ∈ (prF r 4).map (·.1)) ∧ fs.length ≤ 3 * j)
      ⟨[], sD, upd_same, List.nodup_nil, (fun x => ⟨fun h => absurd h List.not_mem_nil, fun ⟨r, hr, _⟩ => by rw [List.take_zero] at hr; exact absurd hr List.not_mem_nil⟩), Nat.zero_le _⟩ (fun j H' _ ⟨_, sm, _⟩ => sm.seq ha) ?_ ?_
    · rintro j x H1 hx ⟨fs, sm, hD, fnd, fme, fl⟩
      obtain ⟨r, hr', ra⟩ := paired_get hR j x hx
      have hjl := (List.getElem?_eq_some_iff.mp hr').1
      have hrm : r ∈ rs := List.mem_of_getElem? hr'
      obtain ⟨pr1, pr3, prn, prg⟩ := rls.pr hrm 4
      obtain ⟨t, wt', gt, rfl, ht, hw, hg⟩ := ra
      obtain ⟨vs, hps, hpp⟩ : ∃ vs : List V, TupN H gt vs ∧ Paired (PairAt H) vs (prF r 4) := hg
      have lv := hpp.length
      refine ⟨t, _, rfl, SqT.of (sm _ _ ht), rfl, _, _, rfl, _, _, rfl, _, _, rfl, _, _, rfl, _, _, rfl, _, _, rfl, rfl, ?_⟩
      refine ⟨by rw [wipe_set (by decide), wipe_set (by decide), wipe_set (by decide), wipe_set (by decide), wipe_set (by decide), wipe_set (by decide), wipe_wipe], ?_⟩
      refine ⟨.ref gt, (by rw [List.getElem?_set_ne (by decide), List.getElem?_set_self (by rw [List.length_set, List.length_set, List.length_set, List.length_set, wipe_length]; exact (by decide : 5 < 9))]), gt, rfl, ⟨_, .inl (hps.same sm).rd⟩, ?_⟩
      refine Stx.trn_tup (K := K) (a := gt) (xs := vs) (fun i H' => ∃ gs : List Str, Same H H' ∧ H' D = some (Stx.SetSO P w D gs) ∧ gs.Nodup ∧ (∀ x, x ∈ gs ↔ x ∈ fs ∨ x ∈ ((prF r 4).take i).map (·.1)) ∧ gs.length ≤ 3 * j + i)
        ⟨fs, sm, hD, fnd, (fun x => ⟨.inl, fun h => h.elim id fun h => by rw [List.take_zero] at h; exact absurd h List.not_mem_nil⟩), fl⟩ (fun i H' _ ⟨_, sm', _⟩ => .inl (hps.same sm').rd) ?_ ?_
      · rintro i x H' hx' ⟨gs, sm', hD', gnd, gme, gl⟩
        obtain ⟨p, hpi, b, rfl, hb⟩ := paired_get hpp i x hx'
        have hil := (List.getElem?_eq_some_iff.mp hpi).1
        refine ⟨b, _, rfl, SqT.of (sm' _ _ hb), rfl, _, _, rfl, _, _, rfl, rfl, ?_⟩
        refine ⟨by rw [wipe_set (by decide), wipe_set (by decide), wipe_wipe], ?_⟩
        refine ⟨.str p.1, (by rw [List.getElem?_set_ne (by decide), List.getElem?_set_self (by rw [wipe_length, List.length_set, List.length_set, List.length_set, List.length_set, List.length_set, List.length_set, wipe_length]; exact (by decide : 7 < 9))]), p.1, gs, rfl, hD', ?_, Stx.addS p.1 gs, sm'.put nD, upd_same, Stx.nodup_addS gnd, fun x => ?_, ?_⟩
        · show gs.length + 1 < scanBound
          unfold scanBound
          omega
        · rw [Stx.mem_addS, gme x, List.take_add_one, hpi]
          simp only [List.map_append, List.mem_append, Option.toList_some, List.map_cons, List.map_nil, List.mem_singleton]
          constructor
          · rintro (h | h | h)
            · exact .inr (.inr h)
            · exact .inl h
            · exact .inr (.inl h)
          · rintro (h | h | h)
            · exact .inr (.inl h)
            · exact .inr (.inr h)
            · exact .inl h
        · have := Stx.addS_len p.1 gs
          omega
      · rintro H' ⟨gs, sm', hD', gnd, gme, gl⟩
        rw [lv] at gme gl
        rw [List.take_length] at gme
        refine ⟨gs, sm', hD', gnd, fun x => ?_, by omega⟩
        rw [gme x, fme x, List.take_add_one, hr']
        constructor
        · rintro (⟨r', h1, h2⟩ | h)
          · exact ⟨r', List.mem_append_left _ h1, h2⟩
          · exact ⟨r, List.mem_append_right _ List.mem_cons_self, h⟩
        · rintro ⟨r', h1, h2⟩
          rcases List.mem_append.mp h1 with h1 | h1
          · exact .inl ⟨r', h1, h2⟩
          · have : r' = r := by simpa using h1
            subst this
            exact .inr h2
    · rintro H1 ⟨fs, sm, hD, fnd, fme, fl⟩
      rw [lr, List.take_length] at fme
      refine ⟨D, fs, rfl, hD, by omega, fun ss p pm so np => ?_⟩
      exact q _ p ss (sm.trans (same_upd np)) (sm.free np) upd_same ⟨pm.nodup_iff.mpr fnd, so, fun x => pm.mem_iff.trans (fme x), by rw [pm.length_eq]; omega⟩
end
end Hl

set_option Elab.async false
set_option linter.all false
set_option maxRecDepth 100000
set_option maxHeartbeats 4000000
namespace Hw
open PySem PySem.Spec PyProof.Rows L2 Hl LamX
abbrev sWhy : Stmt := topS 37
theorem scWhy : FnScope ["_law_ask", "e"] ["_law_ask"] (defScope sWhy) := ⟨rfl, rfl, rfl, by decide +kernel, rfl, by decide +kernel, by decide +kernel⟩
theorem Takes.len {X : Cx} {W : WX} (t : Takes X W) : Takes X (fun cls d σ H => σ.length = X.N.length → W cls d σ H) := fun u s' ⟨a, B, sI, pins, σ, H, cls, d, e, I, nb, up, sky, na, os, ag, w⟩ => t u s' ⟨a, B, sI, pins, σ, H, cls, d, e, I, nb, up, sky, na, os, ag, w I.len⟩
/-- the classes by their names, as the clauses name them -/
abbrev cls1 : List Str := ["BadName", "Taken", "NoLetter", "NoOutlet", "NoMachine", "NoWeb", "NoRun"]
abbrev cls2 : List Str := ["BadRow", "BadText", "BadDeed"]
abbrev cls3 : List Str := ["Unreached", "Gone", "NoStand"]
structure ErrA where
  l1 : List Addr
  l2 : List Addr
  l3 : List Addr
  e4 : Addr
  e5 : Addr
  e6 : Addr
  e7 : Addr
structure Errs (mg : Str → Option Value) (E : ErrA) : Prop where
  h1 : Paired (fun x a => mg x = some (.ref a)) cls1 E.l1
  h2 : Paired (fun x a => mg x = some (.ref a)) cls2 E.l2
  h3 : Paired (fun x a => mg x = some (.ref a)) cls3 E.l3
  h4 : mg "Heeds" = some (.ref E.e4)
  h5 : mg "NoneWaits" = some (.ref E.e5)
  h6 : mg "HeedError" = some (.ref E.e6)
  h7 : mg "Lacking" = some (.ref E.e7)
/-- the clauses of _law_why -/
def whyL (K : PySem.W.Frag) (E : ErrA) : List (List Value × Suit) :=
  [(E.l1.map Value.ref, tFs K ["word", "name"]), (E.l2.map Value.ref, tFs K ["word", "at"]), (E.l3.map Value.ref, tFs K ["word", "stand"]), ([.ref E.e4], tFs K ["word", "stand", "one", "other"]), ([.ref E.e5], tFs K ["word", "name", "letter"]), ([.ref E.e6], tFs K ["word"]), ([.ref E.e7], tFs K ["word"])]
/-- what was told, in its tuple -/
def toldK (Q : VK) : VK := fun v H1 => [V.str "told", v].length ≤ sizeLine ∧ ∀ p, H1 p = none → Q (.ref p) (upd H1 p (.tup [.str "told", v]))
/-- what becomes of an error -/
def whyE (K : PySem.W.Frag) (E : ErrA) (Q : VK) : XK := fun cls d H' => ∀ σ : L2.St, σ.length = 2 → wWhy K 1 (fun _ _ _ _ => False) { nx := fun _ H' => Q .non H', rt := Q } (whyL K E) cls d σ H'
def TWhy (K : PySem.W.Frag) (E : ErrA) : (XK → Hp → VK → Prop) → Hp → VK → Prop := fun tl H Q => tl (whyE K E Q) H (toldK Q)
theorem why_gives {X : Cx} {g : Addr} {cdg : Value} {q : Str} {E : ErrA} (er : Errs X.mg E) : GivesTo X ["_law_ask", "e"] "_law_why" (defScope sWhy) g cdg (defBody sWhy) "_law_ask" q (TWhy X.K E) := by
  intro f c' s H Q tl act hc h
  refine ⟨_, pss_one (ps_try_why (X := (cxOf C8.CX0 X.prog X.w X.K X.mg X.base ["_law_ask", "e"] "_law_why" (defScope sWhy) g cdg X.A X.stack s H C8.E0).nox) (i := 1) (n := "e") (l := whyL X.K E)
      (tb := fun (W : WX) (D : Ends) (σ : L2.St) (H : Hp) => ∃ Ech : XK, (∀ (cls : Value) (d : Option Addr) (σ' : L2.St) (H' : Hp), Ech cls d H' → σ'.length = 2 → W cls d σ' H') ∧ σ[0]? = some (some (V.ref f)) ∧ H c' = some (CodeO c' q) ∧ tl Ech H (toldK D.rt))
      rfl rfl scWhy.nd rfl rfl LamX.takes0 (fun W pn xe tk _ => ?_) ?_), ?_⟩
  · refine ⟨fun pins s' σ H' D I h' => ?_⟩
    obtain ⟨Ech, hW, h1, h2, h3⟩ := h'
    refine PSs.run (pss_one (ps_ret (pe_tup (pa_cons pe_str (pa_cons (act (fun cls d σ H => σ.length = 2 → W cls d σ H) pn xe Ech _ _ (Takes.len tk) (fun cls d σ' H' e hl => hW cls d σ' H' e hl)) pa_nil))))) pins s' σ H' D I ?_
    exact ⟨h1, h2, h3⟩
  · obtain ⟨m1, m2, m3, e4, e5, e6, e7⟩ := E
    obtain ⟨h1, h2, h3, h4, h5, h6, h7⟩ := er
    match m1, m2, m3, h1, h2, h3 with
    | _, _, _, .cons a1 (.cons a2 (.cons a3 (.cons a4 (.cons a5 (.cons a6 (.cons a7 .nil)))))), .cons b1 (.cons b2 (.cons b3 .nil)), .cons c1 (.cons c2 (.cons c3 .nil)) =>
    exact HdsW.cons (.many (.cons ⟨rfl, by decide, .inl (a1)⟩ (.cons ⟨rfl, by decide, .inl (a2)⟩ (.cons ⟨rfl, by decide, .inl (a3)⟩ (.cons ⟨rfl, by decide, .inl (a4)⟩ (.cons ⟨rfl, by decide, .inl (a5)⟩ (.cons ⟨rfl, by decide, .inl (a6)⟩ (.cons ⟨rfl, by decide, .inl (a7)⟩ .nil))))))) (by show 7 ≤ 1000; decide)) (fun a oe cls d pn hz hf => pss_one (ps_ret (pe_tup (pa_cons (pe_xa (i := 1) hz hf rfl (Or.inl rfl)) (pa_cons (pe_xa (i := 1) hz hf rfl (Or.inl rfl)) pa_nil)))))
      (HdsW.cons (.many (.cons ⟨rfl, by decide, .inl (b1)⟩ (.cons ⟨rfl, by decide, .inl (b2)⟩ (.cons ⟨rfl, by decide, .inl (b3)⟩ .nil))) (by show 3 ≤ 1000; decide)) (fun a oe cls d pn hz hf => pss_one (ps_ret (pe_tup (pa_cons (pe_xa (i := 1) hz hf rfl (Or.inl rfl)) (pa_cons (pe_xa (i := 1) hz hf rfl (Or.inl rfl)) pa_nil)))))
      (HdsW.cons (.many (.cons ⟨rfl, by decide, .inl (c1)⟩ (.cons ⟨rfl, by decide, .inl (c2)⟩ (.cons ⟨rfl, by decide, .inl (c3)⟩ .nil))) (by show 3 ≤ 1000; decide)) (fun a oe cls d pn hz hf => pss_one (ps_ret (pe_tup (pa_cons (pe_xa (i := 1) hz hf rfl (Or.inl rfl)) (pa_cons (pe_xa (i := 1) hz hf rfl (Or.inl rfl)) pa_nil)))))
      (HdsW.cons (.one ⟨rfl, by decide, .inl (h4)⟩) (fun a oe cls d pn hz hf => pss_one (ps_ret (pe_tup (pa_cons (pe_xa (i := 1) hz hf rfl (Or.inl rfl)) (pa_cons (pe_xa (i := 1) hz hf rfl (Or.inl rfl)) (pa_cons (pe_xa (i := 1) hz hf rfl (Or.inl rfl)) (pa_cons (pe_xa (i := 1) hz hf rfl (Or.inl rfl)) pa_nil)))))))
      (HdsW.cons (.one ⟨rfl, by decide, .inl (h5)⟩) (fun a oe cls d pn hz hf => pss_one (ps_ret (pe_tup (pa_cons (pe_xa (i := 1) hz hf rfl (Or.inl rfl)) (pa_cons (pe_xa (i := 1) hz hf rfl (Or.inl rfl)) (pa_cons (pe_xa (i := 1) hz hf rfl (Or.inl rfl)) pa_nil))))))
      (HdsW.cons (.one ⟨rfl, by decide, .inl (h6)⟩) (fun a oe cls d pn hz hf => pss_one (ps_ret (pe_tup (pa_cons (pe_xa (i := 1) hz hf rfl (Or.inl rfl)) pa_nil))))
      (HdsW.cons (.one ⟨rfl, by decide, .inl (h7)⟩) (fun a oe cls d pn hz hf => pss_one (ps_ret (pe_tup (pa_cons (pe_xa (i := 1) hz hf rfl (Or.inl rfl)) pa_nil))))
      HdsW.nil))))))
  · exact ⟨_, fun cls d σ' H' e hl => e σ' hl, rfl, hc, h⟩
/-- _law_why(lambda: body) -/
theorem pe_why {X : Cx} {E : ErrA} {g c P : Addr} {fd : FuncData} {k : Nat} {params : Arguments} {body : Expr} {scope : Scope} {t : XK → TE} {p lpos pos : Pos} (F : Fun X.K "_law_why" "_law_why" sWhy g fd) (gW : X.mg "_law_why" = some (.ref g)) (er : Errs X.mg E) (hg : Gl X "_law_why")
    (TB : TabB X.base X.mg c P) (hcode : X.env.code = .ref c) (hr : Room (k + 2) X.A) (L : LamS X.env.scope scope) (hdef : defaultsOf params X.env = ([], []))
    (hbind : ∀ (q : Str) (cl : List (Str × Addr)) (pm cv ctv : Value), bindArgs (PySem.W.kla_fn "<lambda>" q params body scope cl pm cv ctv) ⟨[], []⟩ = pure [])
    (hbody : ∀ (A : Around) (outer : List Env) (s : Shared) (H : Hp) (E : XK) (f c' : Addr), Room k (A.deeper (lamEnv X scope s.heap.objs.size f c')) → PE (lamCx X A outer s H E scope f c') body (t E)) :
    PE X (.Call (.Name "_law_why" p) [.Lambda params body scope lpos] [] pos) (tLam [(P, X.env.qual ++ "<lambda>")] (TWhy X.K E) t) := by
  have b := F.binds (ps := ["_law_ask"]) fun _ _ _ _ _ _ us hl => match us, hl with | [_], _ => rfl
  obtain ⟨oc, od, kV, doc, pm, an, cdv, ct, osl, rfl, lk, hcd⟩ := F.ex
  exact pe_lamcall (a := "_law_ask") hg gW F.kp lk hcd b scWhy rfl (.inl rfl) (why_gives er) TB hcode (List.mem_singleton.mpr rfl) (fun p hp _ => by cases List.mem_singleton.mp hp; rfl) hr L hdef hbind hbody
section
variable {K : PySem.W.Frag} {E : ErrA} {Q : VK} {C d : Addr} {H : Hp} {xs : List (Str × V)} {vs : List V}
theorem why_1  (w1 : PySem.W.exmAny K (.ref C) (E.l1.map Value.ref) = some true) (xf : XfC K C) (hd : H d = some (.xd xs)) (p : Paired (fun f v => PySem.W.findIn K (.ref C) f = some none ∧ xs.lookup f = some v) ["word", "name"] vs) (small : vs.length ≤ 1000) (q : ∀ p, H p = none → Q (.ref p) (upd H p (.tup vs))) : whyE K E Q (.ref C) (some d) H := fun σ hσ =>
  why_at (i := 1) (W := fun _ _ _ _ => False) (D := { nx := fun _ H' => Q .non H', rt := Q }) (l1 := []) w1 (fun e _ => fs_fin xf hd (by match σ, hσ with | [_, _], _ => rfl) p small q) (fun p hp => by cases hp)
theorem why_2 (w1 : PySem.W.exmAny K (.ref C) (E.l1.map Value.ref) = some false) (w2 : PySem.W.exmAny K (.ref C) (E.l2.map Value.ref) = some true) (xf : XfC K C) (hd : H d = some (.xd xs)) (p : Paired (fun f v => PySem.W.findIn K (.ref C) f = some none ∧ xs.lookup f = some v) ["word", "at"] vs) (small : vs.length ≤ 1000) (q : ∀ p, H p = none → Q (.ref p) (upd H p (.tup vs))) : whyE K E Q (.ref C) (some d) H := fun σ hσ =>
  why_at (i := 1) (W := fun _ _ _ _ => False) (D := { nx := fun _ H' => Q .non H', rt := Q }) (l1 := [(E.l1.map Value.ref, tFs K ["word", "name"])]) w2 (fun e _ => fs_fin xf hd (by match σ, hσ with | [_, _], _ => rfl) p small q) (fun p hp => by
    simp only [List.mem_cons, List.not_mem_nil, or_false] at hp
    rcases hp with rfl
    · exact w1)
theorem why_3 (w1 : PySem.W.exmAny K (.ref C) (E.l1.map Value.ref) = some false) (w2 : PySem.W.exmAny K (.ref C) (E.l2.map Value.ref) = some false) (w3 : PySem.W.exmAny K (.ref C) (E.l3.map Value.ref) = some true) (xf : XfC K C) (hd : H d = some (.xd xs)) (p : Paired (fun f v => PySem.W.findIn K (.ref C) f = some none ∧ xs.lookup f = some v) ["word", "stand"] vs) (small : vs.length ≤ 1000) (q : ∀ p, H p = none → Q (.ref p) (upd H p (.tup vs))) : whyE K E Q (.ref C) (some d) H := fun σ hσ =>
  why_at (i := 1) (W := fun _ _ _ _ => False) (D := { nx := fun _ H' => Q .non H', rt := Q }) (l1 := [(E.l1.map Value.ref, tFs K ["word", "name"]), (E.l2.map Value.ref, tFs K ["word", "at"])]) w3 (fun e _ => fs_fin xf hd (by match σ, hσ with | [_, _], _ => rfl) p small q) (fun p hp => by
    simp only [List.mem_cons, List.not_mem_nil, or_false] at hp
    rcases hp with rfl | rfl
    · exact w1
    · exact w2)
theorem why_4 (w1 : PySem.W.exmAny K (.ref C) (E.l1.map Value.ref) = some false) (w2 : PySem.W.exmAny K (.ref C) (E.l2.map Value.ref) = some false) (w3 : PySem.W.exmAny K (.ref C) (E.l3.map Value.ref) = some false) (w4 : PySem.W.exmAny K (.ref C) ([.ref E.e4]) = some true) (xf : XfC K C) (hd : H d = some (.xd xs)) (p : Paired (fun f v => PySem.W.findIn K (.ref C) f = some none ∧ xs.lookup f = some v) ["word", "stand", "one", "other"] vs) (small : vs.length ≤ 1000) (q : ∀ p, H p = none → Q (.ref p) (upd H p (.tup vs))) : whyE K E Q (.ref C) (some d) H := fun σ hσ =>
  why_at (i := 1) (W := fun _ _ _ _ => False) (D := { nx := fun _ H' => Q .non H', rt := Q }) (l1 := [(E.l1.map Value.ref, tFs K ["word", "name"]), (E.l2.map Value.ref, tFs K ["word", "at"]), (E.l3.map Value.ref, tFs K ["word", "stand"])]) w4 (fun e _ => fs_fin xf hd (by match σ, hσ with | [_, _], _ => rfl) p small q) (fun p hp => by
    simp only [List.mem_cons, List.not_mem_nil, or_false] at hp
    rcases hp with rfl | rfl | rfl
    · exact w1
    · exact w2
    · exact w3)
theorem why_5 (w1 : PySem.W.exmAny K (.ref C) (E.l1.map Value.ref) = some false) (w2 : PySem.W.exmAny K (.ref C) (E.l2.map Value.ref) = some false) (w3 : PySem.W.exmAny K (.ref C) (E.l3.map Value.ref) = some false) (w4 : PySem.W.exmAny K (.ref C) ([.ref E.e4]) = some false) (w5 : PySem.W.exmAny K (.ref C) ([.ref E.e5]) = some true) (xf : XfC K C) (hd : H d = some (.xd xs)) (p : Paired (fun f v => PySem.W.findIn K (.ref C) f = some none ∧ xs.lookup f = some v) ["word", "name", "letter"] vs) (small : vs.length ≤ 1000) (q : ∀ p, H p = none → Q (.ref p) (upd H p (.tup vs))) : whyE K E Q (.ref C) (some d) H := fun σ hσ =>
  why_at (i := 1) (W := fun _ _ _ _ => False) (D := { nx := fun _ H' => Q .non H', rt := Q }) (l1 := [(E.l1.map Value.ref, tFs K ["word", "name"]), (E.l2.map Value.ref, tFs K ["word", "at"]), (E.l3.map Value.ref, tFs K ["word", "stand"]), ([.ref E.e4], tFs K ["word", "stand", "one", "other"])]) w5 (fun e _ => fs_fin xf hd (by match σ, hσ with | [_, _], _ => rfl) p small q) (fun p hp => by
    simp only [List.mem_cons, List.not_mem_nil, or_false] at hp
    rcases hp with rfl | rfl | rfl | rfl
    · exact w1
    · exact w2
    · exact w3
    · exact w4)
theorem why_6 (w1 : PySem.W.exmAny K (.ref C) (E.l1.map Value.ref) = some false) (w2 : PySem.W.exmAny K (.ref C) (E.l2.map Value.ref) = some false) (w3 : PySem.W.exmAny K (.ref C) (E.l3.map Value.ref) = some false) (w4 : PySem.W.exmAny K (.ref C) ([.ref E.e4]) = some false) (w5 : PySem.W.exmAny K (.ref C) ([.ref E.e5]) = some false) (w6 : PySem.W.exmAny K (.ref C) ([.ref E.e6]) = some true) (xf : XfC K C) (hd : H d = some (.xd xs)) (p : Paired (fun f v => PySem.W.findIn K (.ref C) f = some none ∧ xs.lookup f = some v) ["word"] vs) (small : vs.length ≤ 1000) (q : ∀ p, H p = none → Q (.ref p) (upd H p (.tup vs))) : whyE K E Q (.ref C) (some d) H := fun σ hσ =>
  why_at (i := 1) (W := fun _ _ _ _ => False) (D := { nx := fun _ H' => Q .non H', rt := Q }) (l1 := [(E.l1.map Value.ref, tFs K ["word", "name"]), (E.l2.map Value.ref, tFs K ["word", "at"]), (E.l3.map Value.ref, tFs K ["word", "stand"]), ([.ref E.e4], tFs K ["word", "stand", "one", "other"]), ([.ref E.e5], tFs K ["word", "name", "letter"])]) w6 (fun e _ => fs_fin xf hd (by match σ, hσ with | [_, _], _ => rfl) p small q) (fun p hp => by
    simp only [List.mem_cons, List.not_mem_nil, or_false] at hp
    rcases hp with rfl | rfl | rfl | rfl | rfl
    · exact w1
    · exact w2
    · exact w3
    · exact w4
    · exact w5)
theorem why_7 (w1 : PySem.W.exmAny K (.ref C) (E.l1.map Value.ref) = some false) (w2 : PySem.W.exmAny K (.ref C) (E.l2.map Value.ref) = some false) (w3 : PySem.W.exmAny K (.ref C) (E.l3.map Value.ref) = some false) (w4 : PySem.W.exmAny K (.ref C) ([.ref E.e4]) = some false) (w5 : PySem.W.exmAny K (.ref C) ([.ref E.e5]) = some false) (w6 : PySem.W.exmAny K (.ref C) ([.ref E.e6]) = some false) (w7 : PySem.W.exmAny K (.ref C) ([.ref E.e7]) = some true) (xf : XfC K C) (hd : H d = some (.xd xs)) (p : Paired (fun f v => PySem.W.findIn K (.ref C) f = some none ∧ xs.lookup f = some v) ["word"] vs) (small : vs.length ≤ 1000) (q : ∀ p, H p = none → Q (.ref p) (upd H p (.tup vs))) : whyE K E Q (.ref C) (some d) H := fun σ hσ =>
  why_at (i := 1) (W := fun _ _ _ _ => False) (D := { nx := fun _ H' => Q .non H', rt := Q }) (l1 := [(E.l1.map Value.ref, tFs K ["word", "name"]), (E.l2.map Value.ref, tFs K ["word", "at"]), (E.l3.map Value.ref, tFs K ["word", "stand"]), ([.ref E.e4], tFs K ["word", "stand", "one", "other"]), ([.ref E.e5], tFs K ["word", "name", "letter"]), ([.ref E.e6], tFs K ["word"])]) w7 (fun e _ => fs_fin xf hd (by match σ, hσ with | [_, _], _ => rfl) p small q) (fun p hp => by
    simp only [List.mem_cons, List.not_mem_nil, or_false] at hp
    rcases hp with rfl | rfl | rfl | rfl | rfl | rfl
    · exact w1
    · exact w2
    · exact w3
    · exact w4
    · exact w5
    · exact w6)
end
section
variable {P : Program} {w : World} {K : PySem.W.Frag} {mg : Str → Option Value} {base : Heap}
/-! HeedError.__init__ -/
abbrev sUpV : Stmt := inClass (topS 1) 0
theorem scUpV : FnScope ["self", "word", "about"] ["self", "word", "about"] (defScope sUpV) := ⟨rfl, rfl, rfl, by decide +kernel, rfl, by decide +kernel, by decide +kernel⟩
theorem ok_upV {f : Addr} {fd : FuncData} {dvs : List V} {kws : List (Str × V)} {k : Nat} (F : FunD K "__init__" "HeedError.__init__" (defArgs sUpV) (defBody sUpV) (defScope sUpV) dvs kws f fd) (mV : mg "ValueError" = none)
    (vV : PySem.W.findCls K (.type "ValueError") (.type "type") "__init__" = some (.val (.builtin "ValueError.__init__"))) : FnOk P w K mg base CX0 (k + 1) f fd ["self", "word", "about"] (spBase K "ValueError.__new__" tlV) := by
  refine F.ok scUpV (fun vs H Q E h => ?_) (fun cdv A outer s H vs Q E hr h => ?_)
  · obtain ⟨a, C, wd, ab, rfl, _⟩ := h
    rfl
  · obtain ⟨a, C, wd, ab, rfl, hl, T, nw, ha, q⟩ := h
    refine ⟨_, PSs.nox (pss_cons (ps_expr (pe_binit bseV PyProof.Rows.Boot.«ValueError» (by rfl) mV vV (pa_cons (pv 0) (pa_cons (pe_op op_add_str (pv 1) (pv 2)) pa_nil)))) (pss_one (ps_st bseV (pv 0) (pv 1)))), ?_⟩
    refine ⟨_, rfl, _, rfl, _, rfl, wd, ab, rfl, rfl, Nat.le_of_lt (small1000 hl), a, C, _, rfl, (by show 1 ≤ 1000; decide), T, ha, ?_⟩
    exact ⟨_, rfl, _, rfl, a, C, rfl, T, nw, .inl ⟨ha, fun dx n1 n2 => q dx n1 n2⟩⟩
/-! BadCounts -/
abbrev sEBadCounts : Stmt := inClass (topS 7) 0
theorem scEBadCounts : FnScope ["self"] ["self"] (defScope sEBadCounts) := ⟨rfl, rfl, rfl, by decide +kernel, rfl, by decide +kernel, by decide +kernel⟩
theorem ok_eBadCounts {f fB cB : Addr} {fd fdB : FuncData} {mc : Value} {ds : List Value} {k : Nat} (F : Fun K "__init__" "BadCounts.__init__" sEBadCounts f fd) (GB : FnOk P w K mg base CX0 (k + 1) fB fdB ["self", "word", "about"] (spBase K "ValueError.__new__" tlV))
    (kB : PySem.W.keepIn K (.ref fB) = true) (bB : Binds K fdB ["self", "word", "about"] ds) (vB : Vals [.str ""] ds) (r : ClX.CRead K cB mc) (c : ClX.CVal K cB mc "__init__" (.ref fB) (.ref fB)) (gB : mg "HeedError" = some (.ref cB)) :
    FnOk P w K mg base CX0 (k + 2) f fd ["self"] (spErr K "ValueError.__new__" tlV 0 (errF "BadCounts" [])) := by
  refine F.ok scEBadCounts (fun vs H Q E h => ?_) (fun cdv A outer s H vs Q E hr h => ?_)
  · obtain ⟨a, C, ws, rfl, hl, _⟩ := h
    show ws.length + 1 = _
    rw [hl]
    rfl
  · obtain ⟨a, C, ws, rfl, hl, ar, T, nf, ha, q⟩ := h
    match ws, hl with
    | [], _ =>
    refine ⟨_, (pss_one (ps_expr (pe_callC r c GB hr (by rfl) gB kB bB vB pass0 (pa_cons (pv 0) (pa_cons pe_str pa_nil))))), ?_⟩
    exact ⟨_, rfl, a, C, _, _, rfl, by decide +kernel, T, (nf (("word" : Str), V.str "BadCounts") (by simp [errF])), ha, fun dx n1 n2 => q dx n1 n2⟩
end
end Hw

set_option Elab.async false
set_option linter.all false
set_option maxRecDepth 100000
set_option maxHeartbeats 4000000
namespace Hl
open PySem PySem.Spec PyProof.Rows L2
abbrev sAdd : Stmt := topS 20
abbrev sRct : Stmt := topS 21
def addL (x y : List Int) : List Int := List.zipWith (· + ·) x y
def SqO (H : Hp) (a : Addr) (vs : List V) : Prop := H a = some (.lst vs) ∨ H a = some (.tup vs)
def iSeq (K : PySem.W.Frag) (tl : TE) : TI := fun σ H R => tl σ H fun x H1 => ∃ a, x = .ref a ∧ ((∃ xs, SqL K H1 a xs) ∧ R (Itl K a) H1 ∨ (∃ xs, SqT K H1 a xs) ∧ R (Itt K a) H1)
theorem pi_seq {X : Cx} {tg l : Expr} {tl : TE} (hl : PE X l tl) : PI X tg l (iSeq X.K tl) := by
  refine ⟨fun pins s σ H R I h => thn (hl.run pins s σ H _ I h) fun v s1 ⟨x, H1, I1, r1, a, ex, q1⟩ => ?_⟩
  subst ex
  cases r1
  have fresh : ∀ b ∈ [s1.heap.objs.size], _ := fun b hb => by
    have e : b = s1.heap.objs.size := by simpa using hb
    subst e
    exact I1.fpOk (Nat.le_refl _) (I1.hok.fresh (Nat.le_refl _))
  rcases q1 with ⟨⟨xs, hq⟩, q⟩ | ⟨⟨xs, hq⟩, q⟩
  · obtain ⟨its, _, p, _⟩ := I1.list hq
    exact wpAny_pyIter_list p.isList ⟨s1.heap.objs.size, [s1.heap.objs.size], _, _, H1, rfl, I1.kept (t' := s1.toks) fun b o e => Heap.get?_push_of_some _ e, turn_list a _, ⟨_, Heap.get?_push_size _ rfl, rfl, rfl⟩, fresh, q⟩
  · obtain ⟨its, _, p, _⟩ := I1.tuple hq
    exact wpAny_pyIter_tuple (show s1.heap.IsTuple a its.toArray from p) ⟨s1.heap.objs.size, [s1.heap.objs.size], _, _, H1, rfl, I1.kept (t' := s1.toks) fun b o e => Heap.get?_push_of_some _ e, turn_tuple a _, ⟨_, Heap.get?_push_size _ rfl, rfl, rfl⟩, fresh, q⟩
theorem for_seq {K : PySem.W.Frag} {a : Addr} {xs : List V} {g : TG} {tb : TS} {D : Ends} {σ : L2.St} {H : Hp} (hO : SqO H a xs) (Pv : Nat → L2.St → Hp → Prop) (h0 : Pv 0 σ H) (hl : ∀ i σ H', Pv i σ H' → ∀ o, H a = some o → H' a = some o)
    (hs : ∀ i x σ H, xs[i]? = some x → Pv i σ H → g x σ H fun σ2 H2 => tb { D with nx := Pv (i + 1), ct := Pv (i + 1), bk := D.nx } σ2 H2) (hd : ∀ σ H, Pv xs.length σ H → D.nx σ H) :
    ((∃ xs, SqL K H a xs) ∧ ∃ W : Nat → Nat → L2.St → Hp → Prop, (∃ m, W 0 m σ H) ∧ ∀ i m σ H, W i m σ H →
      ((Itl K a).stop i H ∧ D.nx σ H) ∨ ((Itl K a).go i H ∧ ∃ N : L2.St → Hp → Prop, (∀ σ' H', N σ' H' → ∃ m', m' < m ∧ W (i + 1) m' σ' H') ∧ ∀ x H', (Itl K a).yld i H x H' → g x σ H' fun σ2 H2 => tb { D with nx := N, ct := N, bk := D.nx } σ2 H2)) ∨
    ((∃ xs, SqT K H a xs) ∧ ∃ W : Nat → Nat → L2.St → Hp → Prop, (∃ m, W 0 m σ H) ∧ ∀ i m σ H, W i m σ H →
      ((Itt K a).stop i H ∧ D.nx σ H) ∨ ((Itt K a).go i H ∧ ∃ N : L2.St → Hp → Prop, (∀ σ' H', N σ' H' → ∃ m', m' < m ∧ W (i + 1) m' σ' H') ∧ ∀ x H', (Itt K a).yld i H x H' → g x σ H' fun σ2 H2 => tb { D with nx := N, ct := N, bk := D.nx } σ2 H2)) := by
  rcases hO with h | h
  · exact .inl ⟨⟨xs, SqL.of h⟩, for_list Pv h0 (fun i σ H' _ p => SqL.of (hl i σ H' p _ h)) hs hd⟩
  · exact .inr ⟨⟨xs, SqT.of h⟩, for_tup Pv h0 (fun i σ H' _ p => SqT.of (hl i σ H' p _ h)) hs hd⟩
theorem lc_seq {K : PySem.W.Frag} {a : Addr} {xs : List V} {g : TG} {tt : TT} {te : TE} {vs : List Nat} {σ : L2.St} {H : Hp} {Qd : Addr → Hp → Prop} (hO : SqO H a xs) (Pv : Addr → Nat → Hp → Prop) (h0 : ∀ D, H D = none → Pv D 0 (upd H D (.lst []))) (hl : ∀ D i H', H D = none → Pv D i H' → ∀ o, H a = some o → H' a = some o)
    (hs : ∀ D i x H', H D = none → xs[i]? = some x → Pv D i H' → g x (wipe σ vs) H' fun σ2 H2 => wipe σ2 vs = wipe σ vs ∧ tt σ2 H2 fun b H3 =>
      if b = true then te σ2 H3 fun y H4 => ∃ acc, H4 D = some (.lst acc) ∧ acc.length < sizeLine ∧ Pv D (i + 1) (upd H4 D (.lst (acc ++ [y]))) else Pv D (i + 1) H3) (hd : ∀ D H', H D = none → Pv D xs.length H' → Qd D H') :
    ((∃ xs, SqL K H a xs) ∧ ∀ D, H D = none → ∃ W : Nat → Nat → Hp → Prop, (∃ m, W 0 m (upd H D (.lst []))) ∧ ∀ i m H, W i m H →
      ((Itl K a).stop i H ∧ Qd D H) ∨ ((Itl K a).go i H ∧ ∃ Nx : Hp → Prop, (∀ H', Nx H' → ∃ m', m' < m ∧ W (i + 1) m' H') ∧ ∀ x H', (Itl K a).yld i H x H' → g x (wipe σ vs) H' fun σ2 H2 => wipe σ2 vs = wipe σ vs ∧ tt σ2 H2 fun b H3 =>
        if b = true then te σ2 H3 fun y H4 => ∃ acc, H4 D = some (.lst acc) ∧ acc.length < sizeLine ∧ Nx (upd H4 D (.lst (acc ++ [y]))) else Nx H3)) ∨
    ((∃ xs, SqT K H a xs) ∧ ∀ D, H D = none → ∃ W : Nat → Nat → Hp → Prop, (∃ m, W 0 m (upd H D (.lst []))) ∧ ∀ i m H, W i m H →
      ((Itt K a).stop i H ∧ Qd D H) ∨ ((Itt K a).go i H ∧ ∃ Nx : Hp → Prop, (∀ H', Nx H' → ∃ m', m' < m ∧ W (i + 1) m' H') ∧ ∀ x H', (Itt K a).yld i H x H' → g x (wipe σ vs) H' fun σ2 H2 => wipe σ2 vs = wipe σ vs ∧ tt σ2 H2 fun b H3 =>
        if b = true then te σ2 H3 fun y H4 => ∃ acc, H4 D = some (.lst acc) ∧ acc.length < sizeLine ∧ Nx (upd H4 D (.lst (acc ++ [y]))) else Nx H3)) := by
  rcases hO with h | h
  · exact .inl ⟨⟨xs, SqL.of h⟩, fun D nD => lc_list (Pv D) (h0 D nD) (fun i H' _ p => SqL.of (hl D i H' nD p _ h)) (fun i x H' => hs D i x H' nD) fun H' => hd D H' nD⟩
  · exact .inr ⟨⟨xs, SqT.of h⟩, fun D nD => lc_tup (Pv D) (h0 D nD) (fun i H' _ p => SqT.of (hl D i H' nD p _ h)) (fun i x H' => hs D i x H' nD) fun H' => hd D H' nD⟩
section
variable {H H' : Hp}
theorem SqO.same {a : Addr} {vs : List V} (k : Same H H') (h : SqO H a vs) : SqO H' a vs := h.elim (fun h => .inl (k _ _ h)) fun h => .inr (k _ _ h)
theorem SqO.or {K : PySem.W.Frag} {a : Addr} {vs : List V} (h : SqO H a vs) : SqL K H a vs ∨ SqT K H a vs := h.elim (fun h => .inl (SqL.of h)) fun h => .inr (SqT.of h)
end
theorem lc_zipA {K : PySem.W.Frag} {a b : Addr} {xs ys : List V} {g : TG} {tt : TT} {te : TE} {vs : List Nat} {σ : L2.St} {H : Hp} {Qd : Addr → Hp → Prop} (hl : xs.length = ys.length) (hO : (H a = some (.lst xs) ∧ H b = some (.lst ys)) ∨ (H a = some (.tup xs) ∧ H b = some (.tup ys))) (Pv : Addr → Nat → Hp → Prop) (h0 : ∀ D, H D = none → Pv D 0 (upd H D (.lst [])))
    (hq : ∀ D i H', H D = none → Pv D i H' → Same H H')
    (hs : ∀ (D : Addr) (i : Nat) (x y : V) (T : Addr) (H' : Hp), H D = none → xs[i]? = some x → ys[i]? = some y → Pv D i H' → H' T = none → g (.ref T) (wipe σ vs) (upd H' T (.tup [x, y])) fun σ2 H2 => wipe σ2 vs = wipe σ vs ∧ tt σ2 H2 fun b H3 =>
      if b = true then te σ2 H3 fun y H4 => ∃ acc, H4 D = some (.lst acc) ∧ acc.length < sizeLine ∧ Pv D (i + 1) (upd H4 D (.lst (acc ++ [y]))) else Pv D (i + 1) H3) (hd : ∀ D H', H D = none → Pv D xs.length H' → Qd D H') :
    ∃ xs ys, (SqL K H a xs ∧ SqL K H b ys ∧ ∀ D, H D = none → ∃ W : Nat → Nat → Hp → Prop, (∃ m, W 0 m (upd H D (.lst []))) ∧ ∀ i m H, W i m H →
      ((Itz K a b).stop i H ∧ Qd D H) ∨ ((Itz K a b).go i H ∧ ∃ Nx : Hp → Prop, (∀ H', Nx H' → ∃ m', m' < m ∧ W (i + 1) m' H') ∧ ∀ x H', (Itz K a b).yld i H x H' → g x (wipe σ vs) H' fun σ2 H2 => wipe σ2 vs = wipe σ vs ∧ tt σ2 H2 fun b H3 =>
        if b = true then te σ2 H3 fun y H4 => ∃ acc, H4 D = some (.lst acc) ∧ acc.length < sizeLine ∧ Nx (upd H4 D (.lst (acc ++ [y]))) else Nx H3)) ∨
     (SqT K H a xs ∧ SqT K H b ys ∧ ∀ D, H D = none → ∃ W : Nat → Nat → Hp → Prop, (∃ m, W 0 m (upd H D (.lst []))) ∧ ∀ i m H, W i m H →
      ((RZ.ItzT K a b).stop i H ∧ Qd D H) ∨ ((RZ.ItzT K a b).go i H ∧ ∃ Nx : Hp → Prop, (∀ H', Nx H' → ∃ m', m' < m ∧ W (i + 1) m' H') ∧ ∀ x H', (RZ.ItzT K a b).yld i H x H' → g x (wipe σ vs) H' fun σ2 H2 => wipe σ2 vs = wipe σ vs ∧ tt σ2 H2 fun b H3 =>
        if b = true then te σ2 H3 fun y H4 => ∃ acc, H4 D = some (.lst acc) ∧ acc.length < sizeLine ∧ Nx (upd H4 D (.lst (acc ++ [y]))) else Nx H3)) := by
  refine ⟨xs, ys, ?_⟩
  rcases hO with ⟨h1, h2⟩ | ⟨h1, h2⟩
  · refine .inl ⟨SqL.of h1, SqL.of h2, fun D nD => ?_⟩
    exact lc_zip hl (Pv D) (h0 D nD) (fun i H' p => ⟨SqL.of (hq D i H' nD p _ _ h1), SqL.of (hq D i H' nD p _ _ h2)⟩) (fun i x y T H' => hs D i x y T H' nD) fun H' => hd D H' nD
  · refine .inr ⟨SqT.of h1, SqT.of h2, fun D nD => ?_⟩
    refine ⟨fun i m H => m = xs.length - i ∧ i ≤ xs.length ∧ Pv D i H, ⟨xs.length, rfl, Nat.zero_le _, h0 D nD⟩, ?_⟩
    rintro i m H' ⟨rfl, hi, p⟩
    have sm := hq D i H' nD p
    have qx : SqT K H' a xs := SqT.of (sm _ _ h1)
    have qy : SqT K H' b ys := SqT.of (sm _ _ h2)
    by_cases hlt : i < xs.length
    · refine .inr ⟨⟨xs, ys, _, _, qx, qy, List.getElem?_eq_getElem hlt, List.getElem?_eq_getElem (show i < ys.length by omega)⟩, Pv D (i + 1), fun H' p' => ⟨xs.length - (i + 1), by omega, rfl, hlt, p'⟩, ?_⟩
      rintro v H'' ⟨T, x, y, rfl, hT, rfl, f1, f2⟩
      exact hs D i x y T H' nD (f1 _ qx) (f2 _ qy) p hT
    · have e : i = xs.length := by omega
      subst e
      exact .inl ⟨⟨xs, ys, qx, qy, .inl (Nat.le_refl _)⟩, hd D H' nD p⟩
section
variable {P : Program} {w : World} {K : PySem.W.Frag} {mg : Str → Option Value} {base : Heap}
def spAdd : Sp := fun vs H Q _ => ∃ (a b : Addr) (xs ys : List Int), vs = [.ref a, .ref b] ∧ ((H a = some (.lst (xs.map V.int)) ∧ H b = some (.lst (ys.map V.int))) ∨ (H a = some (.tup (xs.map V.int)) ∧ H b = some (.tup (ys.map V.int)))) ∧ xs.length = ys.length ∧ xs.length ≤ 100 ∧
  ∀ (H' : Hp) (q : Addr), Same H H' → H q = none → H' q = some (.lst ((addL xs ys).map V.int)) → Q (.ref q) H'
theorem scAd : FnScope ["one", "other", "first", "second"] ["one", "other"] (defScope sAdd) := ⟨rfl, rfl, rfl, by decide +kernel, rfl, by decide +kernel, by decide +kernel⟩
theorem addL_get {xs ys : List Int} {i : Nat} {x y : Int} (h1 : xs[i]? = some x) (h2 : ys[i]? = some y) : (addL xs ys)[i]? = some (x + y) := by
  unfold addL
  rw [List.getElem?_zipWith, h1, h2]
theorem ok_add {f : Addr} {fd : FuncData} {k : Nat} (F : Fun K "added" "added" sAdd f fd) (J : Bj mg) : FnOk P w K mg base CX0 (k + 1) f fd ["one", "other"] spAdd := by
  refine F.ok scAd (fun vs H Q E h => ?_) (fun cdv A outer s H vs Q E hr h => ?_)
  · obtain ⟨a, b, xs, ys, rfl, _⟩ := h
    rfl
  · obtain ⟨a, b, xs, ys, rfl, hab, hl, l100, q⟩ := h
    refine ⟨_, pss_one (ps_ret (pe_lc (own := [("first", 2), ("second", 3)]) (g := gTup K 2 (gCons (gName 2) (gCons (gName 3) gNil))) (tt := tYes) rfl scAd.nd (RZ.pi_zipA (by rfl) J.zip (pa_cons (pv 0) (pa_cons (pv 1) pa_nil)))
      (blkOk_by (own := [("first", 2), ("second", 3)]) (N := ["one", "other", "first", "second"]) (sc := defScope sAdd) (by decide +kernel))
      (fun _ _ _ _ _ => pg_tup rfl (pgs_cons (pg_name (i := 2) scAd.nd rfl (Or.inl rfl)) (pgs_cons (pg_name (i := 3) scAd.nd rfl (Or.inl rfl)) pgs_nil))) (fun _ _ _ _ _ => pts_nil)
      (fun _ _ _ _ _ => pe_op op_add (pv 2) (pv 3)))), ?_⟩
    have hl' : (xs.map V.int).length = (ys.map V.int).length := by rw [List.length_map, List.length_map, hl]
    have la : (addL xs ys).length = xs.length := by
      unfold addL
      rw [List.length_zipWith, ← hl, Nat.min_self]
    refine ⟨_, rfl, _, rfl, a, b, ?_⟩
    refine Exists.elim (lc_zipA (K := K) (g := gTup K 2 (gCons (gName 2) (gCons (gName 3) gNil))) (tt := tYes) (te := tOp _ (tVar 2) (tVar 3)) (vs := [2, 3]) (σ := [some (.ref a), some (.ref b), none, none]) (Qd := fun D H' => Q (.ref D) H') hl' hab (fun D i H' => Same H H' ∧ H' D = some (.lst (((addL xs ys).take i).map V.int))) (fun D nD => ⟨same_upd nD, upd_same⟩) (fun D i H' _ ⟨sm, _⟩ => sm) ?_ ?_) (fun xs' hx => Exists.elim hx fun ys' h => ⟨xs', ys', rfl, h⟩)
    · rintro D i x y T H' nD hx hy ⟨sm, hD⟩ nT
      obtain ⟨x', hx', rfl⟩ := map_int_get hx
      obtain ⟨y', hy', rfl⟩ := map_int_get hy
      have sT := same_upd (o := .tup [.int x', .int y']) nT
      have il := (List.getElem?_eq_some_iff.mp hx').1
      refine ⟨T, _, rfl, SqT.of upd_same, rfl, _, _, rfl, _, _, rfl, rfl, ?_⟩
      refine ⟨rfl, ?_⟩
      refine ⟨_, rfl, _, rfl, _, _, rfl, rfl, _, sT _ _ hD, ?_, (sm.trans sT).put nD, ?_⟩
      · rw [List.length_map, List.length_take]
        exact small1000 (by omega)
      · rw [upd_same, List.take_add_one, addL_get hx' hy', List.map_append]
        rfl
    · rintro D H' nD ⟨sm, hD⟩
      rw [List.take_of_length_le (by rw [List.length_map]; omega)] at hD
      exact q H' D sm nD hD
theorem scRct : FnScope ["counts", "size", "many"] ["counts", "size"] (defScope sRct) := ⟨rfl, rfl, rfl, by decide +kernel, rfl, by decide +kernel, by decide +kernel⟩
/-! refuse_counts, which may refuse -/
def badC (n : Nat) (cs : List Int) : Prop := cs.length ≠ n ∨ ∃ c ∈ cs, c < 0
def spRcX (BC : Addr) : Sp := fun vs H Q E => ∃ (qc : Addr) (cs : List Int) (n : Nat), vs = [.ref qc, .int (n : Nat)] ∧ SqO H qc (cs.map V.int) ∧ cs.length ≤ 900 ∧
  ((¬ badC n cs ∧ ∀ H', Same H H' → Q .non H') ∨ (badC n cs ∧ ∀ (H' : Hp) (d : Addr), Same H H' → H' d = some (.xd (Hw.errF "BadCounts" [] [])) → E (.ref BC) (some d) H'))
theorem any_neg (cs : List Int) : (cs.map fun c => decide (c < 0)).any id = true ↔ ∃ c ∈ cs, c < 0 := by
  simp
theorem ok_rcX {f BC fI : Addr} {fd fdI : FuncData} {k : Nat} (F : Fun K "refuse_counts" "refuse_counts" sRct f fd) (B : Bi mg) (mAny : mg "any" = none) (Er : Hw.Er P w K mg base k "ValueError.__new__" Hw.tlV "BadCounts" [] BC fI fdI) :
    FnOk P w K mg base (L2.CX P w) (k + 2) f fd ["counts", "size"] (spRcX BC) := by
  refine F.okX scRct (fun vs H Q E h => ?_) (fun cdv A outer s H vs Q E hr h => ?_)
  · obtain ⟨qc, cs, n, rfl, _⟩ := h
    rfl
  · obtain ⟨qc, cs, n, rfl, hq, l9, out⟩ := h
    refine ⟨_, pss_one (ps_if (PW.pt (pw_or (pt_cmpR op_ne (pe_callB call_len_seq (by rfl) B.len PySem.boot_len (pa_cons (pv 0) pa_nil)) (pv 1) (nomark _))
        (pw_or1 (pt_val (pe_callB (cr_any rfl) (by rfl) mAny (by decide +kernel) (pa_cons (pe_lc (own := [("many", 2)]) (g := gName 2) (tt := tYes) rfl scRct.nd (pi_seq (pv 0)) (blkOk_by (own := [("many", 2)]) (N := ["counts", "size", "many"]) (sc := defScope sRct) (by decide +kernel)) (fun _ _ _ _ _ => pg_name (i := 2) scRct.nd rfl (Or.inl rfl)) (fun _ _ _ _ _ => pts_nil)
          (fun _ _ _ _ _ => pe_cmpR op_lt (pv 2) pe_int (nomark _))) pa_nil)))))) (pss_one (ps_raise rfl (takes_of rfl rfl rfl rfl) (Hw.pmk_er0 Hw.bseV Er hr (by rfl)))) pss_nil), ?_⟩
    have lm : (cs.map V.int).length = cs.length := List.length_map _
    have fail : ∀ H1, Same H H1 → badC n cs → tMkO BC (Hw.spErr K "ValueError.__new__" Hw.tlV 0 (Hw.errF "BadCounts" [])) [] tNil (start ["counts", "size", "many"] [V.ref qc, V.int (n : Nat)]) H1 E := fun H1 s1 bd => by
      rcases out with ⟨no, _⟩ | ⟨_, Ek⟩
      · exact absurd bd no
      · exact Er.fin (ws := []) rfl (by decide) (fun v hv => by cases hv) fun d nd => Ek _ d (s1.trans (same_upd nd)) upd_same
    refine ⟨_, rfl, qc, _, rfl, hq.or, _, rfl, rfl, _, rfl, ?_⟩
    rw [lm]
    refine ite2 (fun e => iteT ?_) (fun e => ?_)
    · exact fail H (fun _ _ h => h) (.inl fun z => by rw [z] at e; simp at e)
    · have ln : cs.length = n := by
        simp at e
        omega
      refine ⟨_, rfl, qc, rfl, ?_⟩
      refine lc_seq (K := K) (a := qc) (xs := cs.map V.int) hq (fun D i H' => Same H H' ∧ H' D = some (.lst (((cs.take i).map fun c => decide (c < 0)).map V.bl))) (fun D nD => ⟨same_upd nD, upd_same⟩) (fun D i H' nD ⟨sm, _⟩ o ho => sm _ _ ho) ?_ ?_
      · rintro D i x H1 nD hx ⟨sm1, hD⟩
        obtain ⟨c, hc, rfl⟩ := map_int_get hx
        have il := (List.getElem?_eq_some_iff.mp hc).1
        refine ⟨rfl, ?_⟩
        refine ⟨_, rfl, _, _, rfl, rfl, _, hD, ?_, sm1.put nD, ?_⟩
        · rw [List.length_map, List.length_map, List.length_take]
          exact small1000 (by omega)
        · rw [upd_same, List.take_add_one, hc, List.map_append, List.map_append]
          rfl
      rintro D H1 nD ⟨sm1, hD⟩
      rw [lm, List.take_length] at hD
      refine ⟨D, _, rfl, SqL.of hD, _, rfl, ite2 (fun e2 => ?_) (fun e2 => ?_)⟩
      · exact fail H1 sm1 (.inr ((any_neg cs).mp e2))
      · rcases out with ⟨_, Qk⟩ | ⟨bd, _⟩
        · exact Qk _ sm1
        · rcases bd with z | z
          · exact absurd ln z
          · exact absurd ((any_neg cs).mpr z) e2
end
end Hl

set_option Elab.async false
set_option linter.all false
set_option maxRecDepth 100000
set_option maxHeartbeats 4000000
namespace Hl
open PySem PySem.Spec PyProof.Rows L2
abbrev sWi : Stmt := topS 25
abbrev sTs : Stmt := topS 26
structure Bd (mg : Str → Option Value) : Prop where
  dict : mg "dict" = none
/-- the numbers of a name, added up -/
def nmS (ps : List (Str × Int)) (n : Str) : Int := ((ps.filter fun p => decide (p.1 = n)).map (·.2)).sum
def kvL (ps : List (Str × Int)) : List (Key × V) := ps.map fun p => (Sum.inr p.1, V.int p.2)
theorem nmS_no : ∀ {ps : List (Str × Int)} {n : Str}, n ∉ ps.map (·.1) → nmS ps n = 0 := by
  intro ps n h
  unfold nmS
  rw [List.filter_eq_nil_iff.mpr fun p hp z => h (List.mem_map.mpr ⟨p, hp, of_decide_eq_true z⟩)]
  rfl
theorem nmS_cons {m n : Str} {v : Int} {ps : List (Str × Int)} : nmS ((m, v) :: ps) n = (if m = n then v else 0) + nmS ps n := by
  unfold nmS
  by_cases e : m = n
  · simp [e]
  · simp [e]
theorem kv_val {n : Str} : ∀ (ps : List (Str × Int)) (acc : List (Key × V)), (ps.map (·.1)).Nodup → valV (mergeK acc (kvL ps)) (.inr n) = if n ∈ ps.map (·.1) then some (.int (nmS ps n)) else valV acc (.inr n)
  | [], acc, _ => by
    rw [if_neg (by simp)]
    rfl
  | (m, v) :: r, acc, nd => by
    obtain ⟨n1, n2⟩ := List.nodup_cons.mp nd
    have ih := kv_val (n := n) r (putK acc (.inr m) (.int v)) n2
    show valV (mergeK (putK acc (.inr m) (.int v)) (kvL r)) (.inr n) = _
    rw [ih, nmS_cons, List.map_cons]
    dsimp only
    by_cases h : n ∈ r.map (·.1)
    · have ne : ¬ m = n := fun z => n1 (z ▸ h)
      rw [if_pos h, if_pos (List.mem_cons_of_mem _ h), if_neg ne, Int.zero_add]
    · rw [if_neg h, valV_put]
      by_cases e : n = m
      · subst e
        rw [if_pos rfl, if_pos List.mem_cons_self, if_pos rfl, nmS_no h, Int.add_zero]
      · have e' : ¬ (Sum.inr n : Key) = .inr m := fun z => e (Sum.inr.inj z)
        rw [if_neg e', if_neg (fun z => (List.mem_cons.mp z).elim e h)]
theorem kv_get {ps : List (Str × Int)} (nd : (ps.map (·.1)).Nodup) (n : Str) : (valV (mergeK [] (kvL ps)) (.inr n)).getD (.int 0) = .int (nmS ps n) := by
  rw [kv_val ps [] nd]
  split
  · rfl
  · rename_i h
    rw [nmS_no h]
    rfl
theorem pairs_kv {K : PySem.W.Frag} {H : Hp} : ∀ {vs : List V} {ps : List (Str × Int)}, Paired (PairAt H) vs ps → ∃ as : List Addr, vs = as.map V.ref ∧ Paired (fun p kv => SqT K H p [kV kv.1, kv.2]) as (kvL ps)
  | _, _, .nil => ⟨[], rfl, .nil⟩
  | _, _, .cons ⟨a, e, h⟩ r => by
    obtain ⟨as, e2, p⟩ := pairs_kv (K := K) r
    exact ⟨a :: as, by rw [e, e2]; rfl, .cons (SqT.of h) p⟩
section
variable {P : Program} {w : World} {K : PySem.W.Frag} {mg : Str → Option Value} {base : Heap}
def spWi : Sp := fun vs H Q _ => ∃ (v : V) (r : Rl) (n : Str), vs = [v, .str n] ∧ RuleAt H v r ∧ OkR r ∧ ∀ H', Same H H' → Q (.int (wt r n)) H'
theorem scWi : FnScope ["rule", "letter"] ["rule", "letter"] (defScope sWi) := ⟨rfl, rfl, rfl, by decide +kernel, rfl, by decide +kernel, by decide +kernel⟩
theorem ok_wi {f : Addr} {fd : FuncData} {k : Nat} (F : Fun K "weight_in" "weight_in" sWi f fd) (Dd : Bd mg) : FnOk P w K mg base CX0 (k + 1) f fd ["rule", "letter"] spWi := by
  refine F.ok scWi (fun vs H Q E h => ?_) (fun cdv A outer s H vs Q E hr h => ?_)
  · obtain ⟨v, r, n, rfl, _⟩ := h
    rfl
  · obtain ⟨v, r, n, rfl, ⟨t, wt', gt, rfl, ht, ⟨vs, ⟨o, od, hf⟩, hp⟩, hg⟩, ok, q⟩ := h
    refine ⟨_, (pss_one (ps_ret (pe_dget2 (hu_of hr) (pe_callTy (r := Stx.rDictT K) (Stx.cr_dictT rfl) (by rfl) Dd.dict (by decide +kernel) (pa_cons (pe_ix ix_tup (pv 0) pe_int (fun _ _ => rfl)) pa_nil)) (pv 1) pe_int ⟨rfl, rfl, rfl, rfl⟩))), ?_⟩
    obtain ⟨as, rfl, hkv⟩ := pairs_kv (K := K) hp
    refine ⟨_, rfl, t, _, 3, _, rfl, rfl, SqT.of ht, atI_nat (j := 3) rfl, wt', o, as, kvL r.ws, rfl, od, hf, hkv, fun d nd => ?_⟩
    refine ⟨d, rfl, .inl ⟨_, .inl upd_same⟩, _, rfl, valV (mergeK [] (kvL r.ws)) (.inr n), .inl ⟨_, .inr n, .inl upd_same, rfl, rfl⟩, ?_⟩
    rw [kv_get ok.wn]
    exact q _ (same_upd nd)
/-! times_sent -/
def spTs : Sp := fun vs H Q _ => ∃ (v : V) (r : Rl) (x : Int), vs = [v, .int x] ∧ RuleAt H v r ∧ OkR r ∧ Q (.int (tm r x)) H
abbrev nmTs : List Str := ["rule", "number", "word", "every", "after", "weights", "gives", "most", "often"]
theorem scTs : FnScope nmTs ["rule", "number"] (defScope sTs) := ⟨rfl, rfl, rfl, by decide +kernel, rfl, by decide +kernel, by decide +kernel⟩
theorem ok_ts {f : Addr} {fd : FuncData} {k : Nat} (F : Fun K "times_sent" "times_sent" sTs f fd) (J : Bj mg) : FnOk P w K mg base CX0 (k + 1) f fd ["rule", "number"] spTs := by
  refine F.ok scTs (fun vs H Q E h => ?_) (fun cdv A outer s H vs Q E hr h => ?_)
  · obtain ⟨v, r, n, rfl, _⟩ := h
    rfl
  · obtain ⟨v, r, x, rfl, ⟨t, wt', gt, rfl, ht, hw, hg⟩, ok, q⟩ := h
    refine ⟨_, (pss_cons (ps_asg (pv 0) (pg_tup rfl (pgs_cons (pg_name (i := 2) scTs.nd rfl (.inl rfl)) (pgs_cons (pg_name (i := 3) scTs.nd rfl (.inl rfl)) (pgs_cons (pg_name (i := 4) scTs.nd rfl (.inl rfl)) (pgs_cons (pg_name (i := 5) scTs.nd rfl (.inl rfl)) (pgs_cons (pg_name (i := 6) scTs.nd rfl (.inl rfl)) (pgs_cons (pg_name (i := 7) scTs.nd rfl (.inl rfl)) pgs_nil))))))))
        (pss_cons (ps_if (pt_cmpR op_lt (pv 1) (pv 4) (nomark _)) (pss_one (ps_ret pe_int)) pss_nil)
        (pss_cons (ps_set (i := 8) scTs.nd rfl (.inl rfl) (pe_op op_fdiv (pe_op op_sub (pv 1) (pv 4)) (pv 3)))
        (pss_one (ps_ret (pe_ifExp (pt_cmpR op_isN (pv 7) pe_non (nomark _)) (pv 8) (pe_callB (call_min2 rfl) (by rfl) J.min (by decide +kernel) (pa_cons (pv 8) (pa_cons (pv 7) pa_nil))))))))), ?_⟩
    obtain ⟨e1, e6⟩ := ok.oe
    obtain ⟨a0, a12⟩ := ok.oa
    refine ⟨_, rfl, t, _, rfl, SqT.of ht, rfl, _, _, rfl, _, _, rfl, _, _, rfl, _, _, rfl, _, _, rfl, _, _, rfl, rfl, ?_⟩
    refine ⟨_, rfl, _, rfl, _, _, rfl, rfl, _, rfl, ite2 (fun e => ?_) (fun e => ?_)⟩
    · have h1 : x < r.a := of_decide_eq_true e
      have : tm r x = 0 := by
        unfold tm timesF
        have h2 : ¬ x - r.a > 0 := by omega
        rw [if_neg h2, Int.zero_ediv]
        cases hm : r.m with
        | none => rfl
        | some k =>
          have := ok.om k hm
          exact if_neg (by omega)
      rw [this] at q
      exact q
    · have h1 : ¬ x < r.a := fun z => e (decide_eq_true z)
      refine ⟨_, rfl, _, rfl, _, _, rfl, rfl, _, rfl, _, _, rfl, rfl, ⟨by omega, by omega⟩, ?_⟩
      have ef : (if x - r.a > 0 then x - r.a else 0) = x - r.a := by
        by_cases h2 : x - r.a > 0
        · rw [if_pos h2]
        · rw [if_neg h2]
          omega
      refine ⟨_, rfl, rfl, _, rfl, ?_⟩
      unfold tm timesF at q
      rw [ef] at q
      cases hm : r.m with
      | none =>
        rw [hm] at q
        exact iT rfl ⟨_, rfl, q⟩
      | some k =>
        rw [hm] at q
        exact iF rfl ⟨_, rfl, _, rfl, _, _, rfl, q⟩
end
end Hl

set_option Elab.async false
set_option linter.all false
set_option maxRecDepth 100000
set_option maxHeartbeats 4000000
namespace Hl
open PySem PySem.Spec PyProof.Rows L2
abbrev sSa : Stmt := topS 27
structure Has (P : Program) (w : World) (K : PySem.W.Frag) (mg : Str → Option Value) (base : Heap) (k : Nat) (x : Str) (ps : List Str) (sp : Sp) (f : Addr) (fd : FuncData) : Prop where
  G : FnOk P w K mg base CX0 k f fd ps sp
  kp : PySem.W.keepIn K (.ref f) = true
  b : Binds K fd ps []
  g : mg x = some (.ref f)
theorem nmS_bd {n : Str} : ∀ {ps : List (Str × Int)}, (∀ p ∈ ps, 0 ≤ p.2 ∧ p.2 ≤ 4) → 0 ≤ nmS ps n ∧ nmS ps n ≤ 4 * ps.length
  | [], _ => ⟨Int.le_refl _, Int.le_refl _⟩
  | (m, v) :: ps, h => by
    have h1 := nmS_bd (n := n) (ps := ps) fun p hp => h p (List.mem_cons_of_mem _ hp)
    have h2 := h (m, v) List.mem_cons_self
    dsimp only at h2
    rw [nmS_cons, List.length_cons]
    split <;> omega
/-- what a rule sends, by outlets -/
def rowS (ys : List Str) (r : Rl) (x : Int) : List Int := ys.map fun y => tm r x * nmS r.gs y
def sAll (ys : List Str) (l : List (Rl × Int)) : List Int := l.foldl (fun acc t => addL acc (rowS ys t.1 t.2)) (List.replicate ys.length 0)
theorem rowS_len {ys : List Str} {r : Rl} {x : Int} : (rowS ys r x).length = ys.length := List.length_map _
theorem addL_len {xs ys : List Int} (h : xs.length = ys.length) : (addL xs ys).length = ys.length := by
  unfold addL
  rw [List.length_zipWith, h, Nat.min_self]
theorem sFold_len {ys : List Str} : ∀ (l : List (Rl × Int)) (acc : List Int), acc.length = ys.length → (l.foldl (fun acc t => addL acc (rowS ys t.1 t.2)) acc).length = ys.length
  | [], acc, h => h
  | t :: l, acc, h => sFold_len l _ (by rw [addL_len (by rw [h, rowS_len]), rowS_len])
theorem sAll_len {ys : List Str} (l : List (Rl × Int)) : (sAll ys l).length = ys.length := sFold_len l _ (List.length_replicate ..)
theorem sAll_snoc {ys : List Str} {l : List (Rl × Int)} {t : Rl × Int} : sAll ys (l ++ [t]) = addL (sAll ys l) (rowS ys t.1 t.2) := by
  unfold sAll
  rw [List.foldl_append]
  rfl
/-- a number at the place of a name is a row with it there alone -/
theorem addAt_row {ys : List Str} (nd : ys.Nodup) {acc : List Int} (hl : acc.length = ys.length) {m : Str} (hm : m ∈ ys) (c : Int) : addAt acc (ixOf ys m) c = addL acc (ys.map fun y => if m = y then c else 0) := by
  have hi := ixOf_lt hm
  refine List.ext_getElem? fun j => ?_
  unfold addAt addL
  rw [List.getElem?_set, List.getElem?_zipWith, List.getElem?_map]
  by_cases hj : j < ys.length
  · have ha : acc[j]? = some acc[j] := List.getElem?_eq_getElem (by omega)
    have hy : ys[j]? = some ys[j] := List.getElem?_eq_getElem hj
    rw [ha, hy]
    by_cases e : ixOf ys m = j
    · subst e
      have h2 := ixOf_get hm
      rw [hy] at h2
      rw [if_pos rfl, if_pos (by omega), ha]
      simp [Option.some.inj h2]
    · have ne : ¬ m = ys[j] := fun z => by
        have h2 := ixOf_get hm
        have h3 : ys[ixOf ys m]? = ys[j]? := by rw [h2, hy, z]
        exact e ((List.getElem?_inj hi nd).mp h3)
      rw [if_neg e]
      simp [ne]
  · have ha : acc[j]? = none := List.getElem?_eq_none (by omega)
    have hy : ys[j]? = none := List.getElem?_eq_none (by omega)
    rw [ha, hy, if_neg (by omega)]
theorem addL_addL {acc : List Int} {ys : List Str} (f g : Str → Int) (hl : acc.length = ys.length) : addL (addL acc (ys.map f)) (ys.map g) = addL acc (ys.map fun y => f y + g y) := by
  refine List.ext_getElem? fun j => ?_
  unfold addL
  rw [List.getElem?_zipWith, List.getElem?_zipWith, List.getElem?_zipWith, List.getElem?_map, List.getElem?_map, List.getElem?_map]
  cases acc[j]? with
  | none => rfl
  | some x =>
    cases ys[j]? with
    | none => rfl
    | some y =>
      show some (x + f y + g y) = some (x + (f y + g y))
      rw [Int.add_assoc]
/-- the pairs of a rule one after another are its row -/
theorem fold_row {ys : List Str} (nd : ys.Nodup) {c : Int} : ∀ (gs : List (Str × Int)) (acc : List Int), acc.length = ys.length → (∀ p ∈ gs, p.1 ∈ ys) → gs.foldl (fun acc p => addAt acc (ixOf ys p.1) (p.2 * c)) acc = addL acc (ys.map fun y => c * nmS gs y)
  | [], acc, hl, _ => by
    refine List.ext_getElem? fun j => ?_
    show acc[j]? = _
    unfold addL
    rw [List.getElem?_zipWith, List.getElem?_map]
    by_cases hj : j < ys.length
    · rw [List.getElem?_eq_getElem (show j < acc.length by omega), List.getElem?_eq_getElem hj]
      show some _ = some (_ + c * 0)
      rw [Int.mul_zero, Int.add_zero]
    · rw [List.getElem?_eq_none (show acc.length ≤ j by omega), List.getElem?_eq_none (show ys.length ≤ j by omega)]
  | (m, v) :: gs, acc, hl, h => by
    have h1 := addAt_row nd hl (h _ List.mem_cons_self) (v * c)
    have l1 : (addAt acc (ixOf ys m) (v * c)).length = ys.length := by
      unfold addAt
      rw [List.length_set, hl]
    rw [List.foldl_cons, fold_row nd gs _ l1 fun p hp => h p (List.mem_cons_of_mem _ hp)]
    show addL (addAt acc (ixOf ys m) (v * c)) _ = _
    rw [h1, addL_addL _ _ hl]
    congr 1
    refine List.map_congr_left fun y _ => ?_
    rw [nmS_cons, Int.mul_add]
    congr 1
    by_cases e : m = y
    · rw [if_pos e, if_pos e, Int.mul_comm]
    · rw [if_neg e, if_neg e, Int.mul_zero]
section
variable {P : Program} {w : World} {K : PySem.W.Frag} {mg : Str → Option Value} {base : Heap}
def spSa (K : PySem.W.Frag) : Sp := fun vs H Q _ => ∃ (a b : Addr) (vr : List V) (rs : List Rl) (xs : List Int), vs = [.ref a, .ref b] ∧ SqL K H a vr ∧ Paired (RuleAt H) vr rs ∧ Rls rs ∧ H b = some (.lst (xs.map V.int)) ∧ xs.length = rs.length ∧
  ∀ (H' : Hp) (q : Addr) (ys : List Str), Same H H' → H q = none → NmF rs 4 ys → H' q = some (.lst ((sAll ys (rs.zip xs)).map V.int)) → Q (.ref q) H'
abbrev nmSa : List Str := ["rules", "numbers", "outlets", "sent", "rule", "number", "gives", "often", "outlet"]
theorem scSa : FnScope nmSa ["rules", "numbers"] (defScope sSa) := ⟨rfl, rfl, rfl, by decide +kernel, rfl, by decide +kernel, by decide +kernel⟩
theorem ok_sa {f fO fT fA : Addr} {fd fdO fdT fdA : FuncData} {k : Nat} (F : Fun K "sent_at" "sent_at" sSa f fd) (J : Bj mg) (Dd : Bd mg) (Oo : Has P w K mg base k "outlets_of" ["rules"] (spNs K 4) fO fdO) (Ts : Has P w K mg base k "times_sent" ["rule", "number"] spTs fT fdT)
    (Ad : Has P w K mg base k "added" ["one", "other"] spAdd fA fdA) : FnOk P w K mg base CX0 (k + 1) f fd ["rules", "numbers"] (spSa K) := by
  refine F.ok scSa (fun vs H Q E h => ?_) (fun cdv A outer s H vs Q E hr h => ?_)
  · obtain ⟨a, b, vr, rs, xs, rfl, _⟩ := h
    rfl
  · obtain ⟨a, b, vr, rs, xs, rfl, ha, hR, rls, hb, lx, q⟩ := h
    refine ⟨_, (pss_cons (ps_set (i := 2) scSa.nd rfl (.inl rfl) (pe_call Oo.G hr (by rfl) Oo.g Oo.kp Oo.b .nil pass0 (pa_cons (pv 0) pa_nil)))
        (pss_cons (ps_setLc (i := 3) (own := [("outlet", 8)]) (g := gName 8) (tt := tYes) rfl scSa.nd rfl rfl (sw_true rfl rfl rfl (by decide +kernel)) (pi_list (pv 2)) (blkOk_by (own := [("outlet", 8)]) (N := nmSa) (sc := defScope sSa) (by decide +kernel)) (fun _ _ _ _ _ => (pg_name (i := 8) scSa.nd rfl (Or.inl rfl))) (fun _ _ _ _ _ => pts_nil) (fun _ _ _ _ _ => pe_int))
        (pss_cons (ps_for PassesOwn.never rfl (pi_zip (by rfl) J.zip (pa_cons (pv 0) (pa_cons (pv 1) pa_nil))) (pg_tup rfl (pgs_cons (pg_name (i := 4) scSa.nd rfl (.inl rfl)) (pgs_cons (pg_name (i := 5) scSa.nd rfl (.inl rfl)) pgs_nil)))
          (pss_cons (ps_set (i := 6) scSa.nd rfl (.inr rfl) (pe_callTy (r := Stx.rDictT K) (Stx.cr_dictT rfl) (by rfl) Dd.dict (by decide +kernel) (pa_cons (pe_ix ix_tup (pv 4) pe_int (fun _ _ => rfl)) pa_nil)))
        (pss_cons (ps_set (i := 7) scSa.nd rfl (.inr rfl) (pe_call Ts.G hr (by rfl) Ts.g Ts.kp Ts.b .nil pass0 (pa_cons (pv 4) (pa_cons (pv 5) pa_nil))))
        (pss_one (ps_set (i := 3) scSa.nd rfl (.inl rfl) (pe_call Ad.G hr (by rfl) Ad.g Ad.kp Ad.b .nil pass0 (pa_cons (pv 3) (pa_cons (pe_lc (own := [("outlet", 8)]) (g := gName 8) (tt := tYes) rfl scSa.nd (pi_list (pv 2)) (blkOk_by (own := [("outlet", 8)]) (N := nmSa) (sc := defScope sSa) (by decide +kernel)) (fun _ _ _ _ _ => (pg_name (i := 8) scSa.nd rfl (Or.inl rfl))) (fun _ _ _ _ _ => pts_nil) (fun _ _ _ _ _ => (pe_op op_mul (pv 7) (pe_dget2 (hu_of hr) (pv 6) (pv 8) pe_int ⟨rfl, rfl, rfl, rfl⟩)))) pa_nil))))))))
        (pss_one (ps_ret (pv 3)))))), ?_⟩
    have lr := hR.length
    have n12 := rls.n12
    refine ⟨_, rfl, a, vr, rs, rfl, ha, hR, rls, fun H1 o ys s1 no ho nm => ?_⟩
    have ny := nm.le
    have ly : (ys.map V.str).length = ys.length := List.length_map _
    -- noughts
    refine ⟨_, rfl, o, rfl, ⟨_, SqL.of ho⟩, fun D nD => ?_⟩
    refine lc_list (K := K) (a := o) (xs := ys.map V.str) (fun j H' => Same H1 H' ∧ H' D = some (.lst ((List.replicate j (0 : Int)).map V.int))) ⟨same_upd nD, upd_same⟩ (fun j H' _ ⟨sm, _⟩ => SqL.of (sm _ _ ho)) ?_ ?_
    · rintro j x H' hx ⟨sm, hD⟩
      have hj := (List.getElem?_eq_some_iff.mp hx).1
      refine ⟨rfl, _, hD, ?_, sm.put nD, ?_⟩
      · rw [List.length_map, List.length_replicate]
        exact small1000 (by omega)
      · rw [upd_same, List.replicate_succ', List.map_append]
        rfl
    rintro H2 ⟨s2, hD⟩
    rw [ly] at hD
    have s02 := s1.trans s2
    have nD0 : H D = none := s1.free nD
    refine ⟨_, rfl, _, rfl, a, b, _, _, rfl, s02.seq ha, SqL.of (s02 _ _ hb), ?_⟩
    refine RZ.for_zipL (xs := vr) (ys := xs.map V.int) (by rw [List.length_map, lx, lr]) (fun j σ H' => ∃ (u : Addr) (v4 v5 v6 v7 : Option V), σ = [some (.ref a), some (.ref b), some (.ref o), some (.ref u), v4, v5, v6, v7, none] ∧ Same H1 H' ∧ H u = none ∧ H' u = some (.lst ((sAll ys ((rs.zip xs).take j)).map V.int)))
      ⟨D, none, none, none, none, rfl, s2, nD0, hD⟩ (fun j σ H' ⟨_, _, _, _, _, _, sm, _⟩ => ⟨(s1.trans sm).seq ha, SqL.of ((s1.trans sm) _ _ hb)⟩) ?_ ?_
    · rintro j x y T σ H3 hx hy ⟨u, v4, v5, v6, v7, rfl, sm, nu, hu⟩ nT
      obtain ⟨r, hr', ra⟩ := paired_get hR j x hx
      obtain ⟨xi, hxi, rfl⟩ := map_int_get hy
      have okr := rls.ok r (List.mem_of_getElem? hr')
      have hz : (rs.zip xs)[j]? = some (r, xi) := by
        rw [List.getElem?_zip_eq_some]
        exact ⟨hr', hxi⟩
      have sT := same_upd (o := .tup [x, .int xi]) nT
      refine ⟨T, _, rfl, SqT.of upd_same, rfl, _, _, rfl, _, _, rfl, rfl, ?_⟩
      have s03 := (s1.trans sm).trans sT
      have hu4 := sT _ _ hu
      have ho4 := sT _ _ (sm _ _ ho)
      have sm4 := sm.trans sT
      have ra4 := ra.kp (Kp.of s03)
      clear hu
      generalize (upd H3 T (.tup [x, .int xi])) = H4 at *
      have ra4' := ra4
      obtain ⟨t, wt', gt, rfl, ht, hw, ⟨vs, ⟨ob, od, hf⟩, hp⟩⟩ := ra4
      obtain ⟨as, rfl, hkv⟩ := pairs_kv (K := K) hp
      refine ⟨_, rfl, t, _, 4, _, rfl, rfl, SqT.of ht, atI_nat (j := 4) rfl, gt, ob, as, kvL r.gs, rfl, od, hf, hkv, fun d nd => ?_⟩
      have sd := same_upd (o := .dK (mergeK [] (kvL r.gs))) nd
      have hd5 : (upd H4 d (.dK (mergeK [] (kvL r.gs)))) d = some (.dK (mergeK [] (kvL r.gs))) := upd_same
      have ra5 := ra4'.kp (Kp.of sd)
      have hu5 := sd _ _ hu4
      have ho5 := sd _ _ ho4
      have sm5 := sm4.trans sd
      generalize (upd H4 d (.dK (mergeK [] (kvL r.gs)))) = H5 at *
      refine ⟨_, rfl, _, rfl, _, r, xi, rfl, ra5, okr, ?_⟩
      refine ⟨_, rfl, _, rfl, o, rfl, ⟨_, SqL.of ho5⟩, fun D2 nD2 => ?_⟩
      refine lc_list (K := K) (a := o) (xs := ys.map V.str) (fun i H' => Same H5 H' ∧ H' D2 = some (.lst (((rowS ys r xi).take i).map V.int))) ⟨same_upd nD2, upd_same⟩ (fun i H' _ ⟨sm, _⟩ => SqL.of (sm _ _ ho5)) ?_ ?_
      · rintro i x H' hx2 ⟨sm', hD2⟩
        obtain ⟨y, hy2, rfl⟩ := map_str_get hx2
        have hi := (List.getElem?_eq_some_iff.mp hy2).1
        refine ⟨rfl, ?_⟩
        refine ⟨_, rfl, _, rfl, d, rfl, .inl ⟨_, .inl (sm' _ _ hd5)⟩, _, rfl, valV (mergeK [] (kvL r.gs)) (.inr y), .inl ⟨_, .inr y, .inl (sm' _ _ hd5), rfl, rfl⟩, ?_⟩
        rw [kv_get okr.gn]
        refine ⟨_, _, rfl, rfl, ?_, ?_⟩
        · have bd := nmS_bd (n := y) okr.gv
          have g3 := okr.g3
          exact .inr ⟨by omega, by omega⟩
        · refine ⟨_, hD2, ?_, sm'.put nD2, ?_⟩
          · rw [List.length_map, List.length_take]
            exact small1000 (by omega)
          · have hrow : (rowS ys r xi)[i]? = some (tm r xi * nmS r.gs y) := by
              unfold rowS
              rw [List.getElem?_map, hy2]
              rfl
            rw [upd_same, List.take_add_one, hrow, List.map_append]
            rfl
      · rintro H6 ⟨s6, hD2⟩
        rw [ly, List.take_of_length_le (by rw [rowS_len]; exact Nat.le_refl _)] at hD2
        refine ⟨u, D2, _, _, rfl, .inl ⟨s6 _ _ hu5, hD2⟩, by rw [sAll_len, rowS_len], by rw [sAll_len]; omega, fun H7 q7 s7 nq7 hq7 => ?_⟩
        refine ⟨q7, _, _, _, _, rfl, (sm5.trans s6).trans s7, ((s1.trans sm5).trans s6).free nq7, ?_⟩
        rw [hq7, List.take_add_one, hz]
        show _ = some (HO.lst ((sAll ys ((rs.zip xs).take j ++ [(r, xi)])).map V.int))
        rw [sAll_snoc]
    · rintro σ H3 ⟨u, v4, v5, v6, v7, rfl, sm, nu, hu⟩
      rw [List.take_of_length_le (by rw [List.length_zip]; omega)] at hu
      exact ⟨_, rfl, q H3 u ys (s1.trans sm) nu nm hu⟩
end
end Hl

set_option Elab.async false
set_option linter.all false
set_option maxRecDepth 100000
set_option maxHeartbeats 4000000
namespace Hl
open PySem PySem.Spec PyProof.Rows L2
abbrev sSo : Stmt := topS 41
theorem aFold_len {ys : List Str} {c : Int} : ∀ (l : List (Str × Int)) (acc : List Int), (l.foldl (fun acc p => addAt acc (ixOf ys p.1) (p.2 * c)) acc).length = acc.length
  | [], _ => rfl
  | p :: l, acc => by
    rw [List.foldl_cons, aFold_len l]
    unfold addAt
    rw [List.length_set]
/-- what comes to a rule -/
def comeF (ins : List Str) (as : List Int) (r : Rl) : Int := ((ins.zip as).map fun t => wt r t.1 * t.2).sum
section
variable {P : Program} {w : World} {K : PySem.W.Frag} {mg : Str → Option Value} {base : Heap}
def spSo (K : PySem.W.Frag) : Sp := fun vs H Q _ => ∃ (a b : Addr) (vr : List V) (rs : List Rl) (ins : List Str) (as : List Int), vs = [.ref a, .ref b] ∧ SqL K H a vr ∧ Paired (RuleAt H) vr rs ∧ Rls rs ∧ H b = some (.lst (as.map V.int)) ∧ NmF rs 3 ins ∧ as.length = ins.length ∧
  ∀ (H' : Hp) (q : Addr) (outs : List Str), Same H H' → H q = none → NmF rs 4 outs → H' q = some (.lst ((sAll outs (rs.zip (rs.map (comeF ins as)))).map V.int)) → Q (.ref q) H'
abbrev nmSo : List Str := ["_law_given_rules", "_law_amounts", "_law_ins", "_law_outs", "_law_found", "_law_rule", "_law_name", "_law_size", "_law_come"]
theorem scSo : FnScope nmSo ["_law_given_rules", "_law_amounts"] (defScope sSo) := ⟨rfl, rfl, rfl, by decide +kernel, rfl, by decide +kernel, by decide +kernel⟩
theorem ok_so {f fN fW fT : Addr} {fd fdN fdW fdT : FuncData} {k : Nat} (F : Fun K "_law_sent_of" "_law_sent_of" sSo f fd) (B : Bi mg) (J : Bj mg) (No : Has P w K mg base k "_law_names_of" ["_law_given_rules", "_law_place"] (spNo K) fN fdN) (We : Has P w K mg base k "_law_weight" ["_law_rule", "_law_name"] spWeight fW fdW)
    (Ti : Has P w K mg base k "_law_times_of" ["_law_rule", "_law_come"] spTimes fT fdT) : FnOk P w K mg base CX0 (k + 1) f fd ["_law_given_rules", "_law_amounts"] (spSo K) := by
  refine F.ok scSo (fun vs H Q E h => ?_) (fun cdv A outer s H vs Q E hr h => ?_)
  · obtain ⟨a, b, vr, rs, ins, as, rfl, _⟩ := h
    rfl
  · obtain ⟨a, b, vr, rs, ins, as, rfl, ha, hR, rls, hb, nI, la, q⟩ := h
    refine ⟨_, (pss_cons (ps_par (i := 2) (j := 3) rfl scSo.nd rfl rfl (by decide) rfl rfl (pa_cons (pe_call No.G hr (by rfl) No.g No.kp No.b .nil pass0 (pa_cons (pv 0) (pa_cons pe_int pa_nil))) (pa_cons (pe_call No.G hr (by rfl) No.g No.kp No.b .nil pass0 (pa_cons (pv 0) (pa_cons pe_int pa_nil))) pa_nil)) (by rfl))
        (pss_cons (ps_set (i := 4) scSo.nd rfl (.inl rfl) (pe_op op_rep (pe_lst (pa_cons pe_int pa_nil)) (pe_callB call_len_seq (by rfl) B.len PySem.boot_len (pa_cons (pv 3) pa_nil))))
        (pss_cons (ps_for PassesOwn.never rfl (pi_list (pv 0)) (pg_name (i := 5) scSo.nd rfl (.inr rfl))
          (pss_cons (ps_set (i := 8) scSo.nd rfl (.inl rfl) (pe_callB (cr_sum rfl) (by rfl) J.sum (by decide +kernel) (pa_cons (pe_lc (own := [("_law_name", 6), ("_law_size", 7)]) (g := gTup K 2 (gCons (gName 6) (gCons (gName 7) gNil))) (tt := tYes) rfl scSo.nd (pi_zip (by rfl) J.zip (pa_cons (pv 2) (pa_cons (pv 1) pa_nil))) (blkOk_by (own := [("_law_name", 6), ("_law_size", 7)]) (N := nmSo) (sc := defScope sSo) (by decide +kernel)) (fun _ _ _ _ _ => (pg_tup rfl (pgs_cons (pg_name (i := 6) scSo.nd rfl (Or.inl rfl)) (pgs_cons (pg_name (i := 7) scSo.nd rfl (Or.inl rfl)) pgs_nil)))) (fun _ _ _ _ _ => pts_nil) (fun _ _ _ _ _ => (pe_op op_mul (pe_call We.G hr (by rfl) We.g We.kp We.b .nil pass0 (pa_cons (pv 5) (pa_cons (pv 6) pa_nil))) (pv 7)))) pa_nil)))
        (pss_one (ps_for PassesOwn.never rfl (pi_tup (pe_ix ix_tup (pv 5) pe_int (fun _ _ => rfl))) (pg_tup rfl (pgs_cons (pg_name (i := 6) scSo.nd rfl (.inl rfl)) (pgs_cons (pg_name (i := 7) scSo.nd rfl (.inl rfl)) pgs_nil)))
          (pss_one (ps_augS (pv 4) (pe_bm PySem.F.plainAttrs_list PySem.F.slot_list_index PySem.F.type_list_index mt_index (pv 3) (pa_cons (pv 6) pa_nil)) get_list (pe_op op_mul (pv 7) (pe_call Ti.G hr (by rfl) Ti.g Ti.kp Ti.b .nil pass0 (pa_cons (pv 5) (pa_cons (pv 8) pa_nil)))) ip_add set_list))))))
        (pss_one (ps_ret (pv 4)))))), ?_⟩
    have lr := hR.length
    have n12 := rls.n12
    refine ⟨_, rfl, a, vr, rs, 3, rfl, ha, hR, rls, .inl rfl, fun H1 i ins' s1 ni hi nI' => ?_⟩
    have eI := nI'.one nI
    subst eI
    refine ⟨_, rfl, a, vr, rs, 4, rfl, s1.seq ha, paired_mono (fun _ _ => RuleAt.kp (Kp.of s1)) hR, rls, .inr rfl, fun H2 o outs s2 no ho nO => ?_⟩
    refine ⟨_, _, rfl, ?_⟩
    have s3 := s1.trans s2
    have hi3 := s2 _ _ hi
    have ho3 := ho
    generalize H2 = H3 at *
    have li := nI'.le
    have lo := nO.le
    have lob : outs.length ≤ 36 := by omega
    -- found
    refine ⟨(by show 1 ≤ sizeLine; decide), fun z nz => ?_⟩
    have sz := same_upd (o := .lst [.int 0]) nz
    refine ⟨_, rfl, o, _, rfl, .inl (SqL.of (sz _ _ ho3)), z, (outs.length : Int), _, rfl, by rw [List.length_map], upd_same, by omega, by omega, ?_, fun D hD => ?_⟩
    · rw [Int.toNat_natCast]
      show 1 * outs.length ≤ sizeLine
      exact Nat.le_of_lt (small1000 (by omega))
    have s4 := sz.trans (same_upd (o := .lst (List.replicate (outs.length : Int).toNat [V.int 0]).flatten) hD)
    have nD : H D = none := s3.free (sz.free hD)
    have iD : i ≠ D := ne_of_none (sz _ _ hi3) hD
    have oD : o ≠ D := ne_of_none (sz _ _ ho3) hD
    rw [Int.toNat_natCast, rep_one] at s4 ⊢
    have hD4 : (upd (upd H3 z (.lst [.int 0])) D (.lst ((List.replicate outs.length (0 : Int)).map V.int))) D = some (.lst ((List.replicate outs.length (0 : Int)).map V.int)) := upd_same
    generalize (upd (upd H3 z (.lst [.int 0])) D (.lst ((List.replicate outs.length (0 : Int)).map V.int))) = H4 at *
    have hi4 := s4 _ _ hi3
    have ho4 := s4 _ _ ho3
    have s04 := s3.trans s4
    clear hi3 ho3
    refine ⟨_, rfl, a, rfl, ⟨_, s04.seq ha⟩, ?_⟩
    refine for_list (K := K) (a := a) (xs := vr) (fun j σ H' => ∃ v5 v6 v7 v8 : Option V, σ = [some (.ref a), some (.ref b), some (.ref i), some (.ref o), some (.ref D), v5, v6, v7, v8] ∧ Same H H' ∧ H' i = some (.lst (ins'.map V.str)) ∧ H' o = some (.lst (outs.map V.str)) ∧ H' D = some (.lst ((sAll outs ((rs.zip (rs.map (comeF ins' as))).take j)).map V.int)))
      ⟨none, none, none, none, rfl, s04, hi4, ho4, hD4⟩ (fun j σ H' _ ⟨_, _, _, _, _, sm, _⟩ => sm.seq ha) ?_ ?_
    · rintro j x σ H5 hx ⟨v5, v6, v7, v8, rfl, sm, hi5, ho5, hD5⟩
      obtain ⟨r, hr', ra⟩ := paired_get hR j x hx
      have hrm : r ∈ rs := List.mem_of_getElem? hr'
      have okr := rls.ok r hrm
      have hz : (rs.zip (rs.map (comeF ins' as)))[j]? = some (r, comeF ins' as r) := by
        rw [List.getElem?_zip_eq_some]
        refine ⟨hr', ?_⟩
        rw [List.getElem?_map, hr']
        rfl
      have ra5 := ra.kp (Kp.of sm)
      have hb5 := sm _ _ hb
      -- what comes
      refine ⟨_, rfl, _, rfl, i, b, _, _, rfl, SqL.of hi5, SqL.of hb5, fun D2 nD2 => ?_⟩
      refine lc_zip (K := K) (xs := ins'.map V.str) (ys := as.map V.int) (by rw [List.length_map, List.length_map, la]) (fun k H' => Same H5 H' ∧ H' D2 = some (.lst ((((ins'.zip as).take k).map fun t => wt r t.1 * t.2).map V.int))) ⟨same_upd nD2, upd_same⟩ (fun k H' ⟨sm', _⟩ => ⟨SqL.of (sm' _ _ hi5), SqL.of (sm' _ _ hb5)⟩) ?_ ?_
      · rintro k x y T2 H6 hx2 hy2 ⟨sm6, hD6⟩ nT2
        obtain ⟨n, hn, rfl⟩ := map_str_get hx2
        obtain ⟨c, hc, rfl⟩ := map_int_get hy2
        have hk := (List.getElem?_eq_some_iff.mp hn).1
        have hzz : (ins'.zip as)[k]? = some (n, c) := by
          rw [List.getElem?_zip_eq_some]
          exact ⟨hn, hc⟩
        have sT2 := same_upd (o := .tup [.str n, .int c]) nT2
        refine ⟨T2, _, rfl, SqT.of upd_same, rfl, _, _, rfl, _, _, rfl, rfl, ?_⟩
        refine ⟨rfl, ?_⟩
        have w3 := okr.w3
        refine ⟨_, rfl, _, rfl, _, r, n, rfl, ra5.kp (Kp.of (sm6.trans sT2)), okr.w3, fun H7 s7 => ?_⟩
        have bd : 0 ≤ wt r n ∧ wt r n ≤ 4 * r.ws.length := nmS_bd (n := n) okr.wv
        refine ⟨_, rfl, _, _, rfl, rfl, .inl ⟨by omega, by omega⟩, ?_⟩
        refine ⟨_, s7 _ _ (sT2 _ _ hD6), ?_, ((sm6.trans sT2).trans s7).put nD2, ?_⟩
        · rw [List.length_map, List.length_map, List.length_take]
          exact small1000 (by omega)
        · rw [upd_same, List.take_add_one, hzz, List.map_append, List.map_append]
          rfl
      rintro H6 ⟨sm6, hD6⟩
      rw [List.length_map, List.take_of_length_le (by rw [List.length_zip]; omega)] at hD6
      refine ⟨D2, _, rfl, SqL.of hD6, ?_⟩
      obtain ⟨t, wt', gt, rfl, ht, hw, ⟨vs, hps, hp⟩⟩ := id ra
      have s06 := sm.trans sm6
      refine ⟨_, rfl, t, _, 4, _, rfl, rfl, SqT.of (s06 _ _ ht), atI_nat (j := 4) rfl, gt, rfl, ⟨_, .inl (hps.same s06).rd⟩, ?_⟩
      obtain ⟨e1, e6⟩ := okr.oe
      have gin : ∀ p ∈ r.gs, p.1 ∈ outs := fun p hp => (nO.me p.1).mpr ⟨r, hrm, List.mem_map_of_mem hp⟩
      have lS : (sAll outs ((rs.zip (rs.map (comeF ins' as))).take j)).length = outs.length := sAll_len _
      refine for_tup (K := K) (a := gt) (xs := vs) (fun m σ H' => ∃ v6 v7 : Option V, σ = [some (.ref a), some (.ref b), some (.ref i), some (.ref o), some (.ref D), some (.ref t), v6, v7, some (.int (comeF ins' as r))] ∧ Same H H' ∧ H' i = some (.lst (ins'.map V.str)) ∧ H' o = some (.lst (outs.map V.str)) ∧
          H' D = some (.lst (((r.gs.take m).foldl (fun acc p => addAt acc (ixOf outs p.1) (p.2 * tm r (comeF ins' as r))) (sAll outs ((rs.zip (rs.map (comeF ins' as))).take j))).map V.int)))
        ⟨v6, v7, rfl, s06, sm6 _ _ hi5, sm6 _ _ ho5, sm6 _ _ hD5⟩ (fun m σ H' _ ⟨_, _, _, sm', _⟩ => .inl (hps.same sm').rd) ?_ ?_
      · rintro m x σ H7 gj ⟨v6, v7, rfl, sm7, hi7, ho7, hD7⟩
        obtain ⟨p, hpj, c, rfl, hc⟩ := paired_get hp m _ gj
        have pin : p ∈ r.gs := List.mem_of_getElem? hpj
        have pout := gin p pin
        obtain ⟨p0, p4⟩ := okr.gv p pin
        have il := ixOf_lt pout
        have accl : ((r.gs.take m).foldl (fun acc p => addAt acc (ixOf outs p.1) (p.2 * tm r (comeF ins' as r))) (sAll outs ((rs.zip (rs.map (comeF ins' as))).take j))).length = outs.length := by
          rw [aFold_len, lS]
        generalize hacc : ((r.gs.take m).foldl (fun acc p => addAt acc (ixOf outs p.1) (p.2 * tm r (comeF ins' as r))) (sAll outs ((rs.zip (rs.map (comeF ins' as))).take j))) = acc at *
        refine ⟨c, _, rfl, SqT.of (sm7 _ _ hc), rfl, _, _, rfl, _, _, rfl, rfl, ?_⟩
        refine ⟨_, rfl, _, rfl, .inl ⟨rfl, _, SqL.of ho7⟩, _, rfl, o, _, _, ixOf outs p.1, .str p.1, rfl, rfl, SqL.of ho7, rfl, strs_flat _, ?_, ?_, ?_, ?_⟩
        · rw [List.getElem?_map, ixOf_get pout]
          rfl
        · simp [eqV]
        · intro m' z' hm hz'
          obtain ⟨s', hs', rfl⟩ := map_str_get hz'
          have := ixOf_no hm hs'
          simp [eqV, this]
        · have gj' : (acc.map V.int)[ixOf outs p.1]? = some (.int ((acc[ixOf outs p.1]?).getD 0)) := by
            rw [List.getElem?_map, List.getElem?_eq_getElem (by omega)]
            rfl
          refine ⟨D, _, ixOf outs p.1, _, rfl, rfl, SqL.of hD7, gj', ?_⟩
          refine ⟨_, rfl, _, rfl, _, rfl, _, r, comeF ins' as r, rfl, ra.kp (Kp.of sm7), ⟨e1, e6⟩, _, _, rfl, rfl, .inl ⟨by omega, by omega⟩, _, _, rfl, rfl, ?_⟩
          refine ⟨D, _, _, ixOf outs p.1, rfl, rfl, hD7, Evl.ixN_nat (by rw [List.length_map]; omega), ?_⟩
          refine ⟨_, _, rfl, sm7.put nD, by rw [upd_ne iD]; exact hi7, by rw [upd_ne oD]; exact ho7, ?_⟩
          rw [upd_same, List.take_add_one, hpj]
          rw [List.foldl_append, hacc]
          show some (HO.lst _) = some (HO.lst ((addAt acc (ixOf outs p.1) _).map V.int))
          unfold addAt
          rw [List.map_set]
      · rintro σ H7 ⟨v6, v7, rfl, sm7, hi7, ho7, hD7⟩
        refine ⟨_, _, _, _, rfl, sm7, hi7, ho7, ?_⟩
        rw [hD7, hp.length, List.take_length, fold_row nO.nd _ _ lS gin, List.take_add_one, hz]
        show _ = some (HO.lst ((sAll outs ((rs.zip (rs.map (comeF ins' as))).take j ++ [(r, comeF ins' as r)])).map V.int))
        rw [sAll_snoc]
        rfl
    · rintro σ H5 ⟨v5, v6, v7, v8, rfl, sm, hi5, ho5, hD5⟩
      rw [List.take_of_length_le (by rw [List.length_zip, List.length_map]; omega)] at hD5
      exact ⟨_, rfl, q H5 D outs sm nD nO hD5⟩
end
end Hl

set_option Elab.async false
set_option linter.all false
set_option maxRecDepth 100000
set_option maxHeartbeats 4000000
namespace Hl
open PySem PySem.Spec PyProof.Rows L2
abbrev sSb : Stmt := topS 28
def lcScope : Expr → Scope
  | .ListComp _ _ sc _ => { sc with names := sc.names.map fun (n, k) => if k == NameKind.free then (n, NameKind.cell) else (n, k) }
  | _ => { kind := .function, names := [], isGenerator := false, isCoroutine := false }
def retE : Stmt → Expr
  | .Return (some e) _ => e
  | _ => .Constant .none 0 ⟨0, 0, 0, 0⟩
def argE (n : Nat) : Expr → Expr
  | .Call _ es _ _ => es.getD n (.Constant .none 0 ⟨0, 0, 0, 0⟩)
  | e => e
abbrev scSb1 : Scope := lcScope (argE 1 (retE ((defBody sSb).getD 2 (.Pass ⟨0, 0, 0, 0⟩))))
section
variable {P : Program} {w : World} {K : PySem.W.Frag} {mg : Str → Option Value} {base : Heap}
def spSb (K : PySem.W.Frag) (BC : Addr) : Sp := fun vs H Q E => ∃ (a b : Addr) (vr : List V) (rs : List Rl) (cs : List Int), vs = [.ref a, .ref b] ∧ SqL K H a vr ∧ Paired (RuleAt H) vr rs ∧ Rls rs ∧ H b = some (.lst (cs.map V.int)) ∧ cs.length ≤ 900 ∧ ∀ ins, NmF rs 3 ins →
  ((¬ badC ins.length cs ∧ ∀ (H' : Hp) (q : Addr) (ys : List Str), Same H H' → H q = none → NmF rs 4 ys → H' q = some (.lst ((sAll ys (rs.zip (rs.map (comeF ins cs)))).map V.int)) → Q (.ref q) H') ∨
   (badC ins.length cs ∧ ∀ (H' : Hp) (d : Addr), Same H H' → H' d = some (.xd (Hw.errF "BadCounts" [] [])) → E (.ref BC) (some d) H'))
abbrev nmSb : List Str := ["rules", "counts", "letters", "rule", "letter", "many"]
theorem scSb : FnScope nmSb ["rules", "counts"] (defScope sSb) := ⟨rfl, rfl, rfl, by decide +kernel, rfl, by decide +kernel, by decide +kernel⟩
theorem ok_sb {f fL fC fS fW BC : Addr} {fd fdL fdC fdS fdW : FuncData} {k : Nat} (F : Fun K "sent_by" "sent_by" sSb f fd) (B : Bi mg) (J : Bj mg) (Lo : Has P w K mg base k "letters_of" ["rules"] (spNs K 3) fL fdL)
    (GC : FnOk P w K mg base (L2.CX P w) k fC fdC ["counts", "size"] (spRcX BC)) (kC : PySem.W.keepIn K (.ref fC) = true) (bC : Binds K fdC ["counts", "size"] []) (gC : mg "refuse_counts" = some (.ref fC))
    (Sa : Has P w K mg base k "sent_at" ["rules", "numbers"] (spSa K) fS fdS) (Wi : Has P w K mg base k "weight_in" ["rule", "letter"] spWi fW fdW) : FnOk P w K mg base (L2.CX P w) (k + 1) f fd ["rules", "counts"] (spSb K BC) := by
  refine F.okX scSb (fun vs H Q E h => ?_) (fun cdv A outer s H vs Q E hr h => ?_)
  · obtain ⟨a, b, vr, rs, cs, rfl, _⟩ := h
    rfl
  · obtain ⟨a, b, vr, rs, cs, rfl, ha, hR, rls, hb, l9, ends⟩ := h
    refine ⟨_, (pss_cons (ps_set (i := 2) scSb.nd rfl (.inr rfl) (pe_call Lo.G hr (by rfl) Lo.g Lo.kp Lo.b .nil pass0 (pa_cons (pv 0) pa_nil)))
 (pss_cons (ps_expr (pe_call GC hr (by rfl) gC kC bC .nil (passes_call (takes_of rfl rfl rfl rfl) (fun _ _ _ _ h => h)) (pa_cons (pv 1) (pa_cons (pe_callB call_len_seq (by rfl) B.len PySem.boot_len (pa_cons (pv 2) pa_nil)) pa_nil))))
 (PSs.nox (pss_one (ps_ret (pe_call Sa.G hr (by rfl) Sa.g Sa.kp Sa.b .nil pass0 (pa_cons (pv 0) (pa_cons (pe_lc (own := [("rule", 3)]) (g := gName 3) (tt := tYes) rfl scSb.nd (pi_list (pv 0)) (blkOk_by (own := [("rule", 3)]) (N := nmSb) (sc := defScope sSb) (by decide +kernel)) (fun _ _ _ _ _ => (pg_name (i := 3) scSb.nd rfl (Or.inr rfl))) (fun _ _ _ _ _ => pts_nil) (fun _ _ _ _ _ => (pe_callB (r := rSum K) (cr_sum rfl) (by rfl) J.sum (by decide +kernel) (pa_cons (pe_lc (own := [("letter", 4), ("many", 5)]) (wi := iZip K (tCons (tVar 2) (tCons (tVar 1) tNil))) (g := gTup K 2 (gCons (gName 4) (gCons (gName 5) gNil))) (tt := tYes) rfl scSb.nd (pi_zip (by rfl) J.zip (pa_cons (pv 2) (pa_cons (pv 1) pa_nil))) (blkOk_by (own := [("letter", 4), ("many", 5)]) (N := nmSb) (sc := scSb1) (by decide +kernel)) (fun _ _ _ _ _ => (pg_tup rfl (pgs_cons (pg_name (i := 4) scSb.nd rfl (Or.inl rfl)) (pgs_cons (pg_name (i := 5) scSb.nd rfl (Or.inl rfl)) pgs_nil)))) (fun _ _ _ _ _ => pts_nil) (fun _ _ _ _ _ => (pe_op op_mul (pe_call Wi.G hr (by rfl) Wi.g Wi.kp Wi.b .nil pass0 (pa_cons (pv 3) (pa_cons (pv 4) pa_nil))) (pv 5)))) pa_nil)))) pa_nil)))))))), ?_⟩
    have lr := hR.length
    have n12 := rls.n12
    refine ⟨_, rfl, a, vr, rs, rfl, ha, hR, rls, fun H1 l ins s1 nl hl nI => ?_⟩
    have hb1 := s1 _ _ hb
    have ll : (ins.map V.str).length = ins.length := List.length_map _
    refine ⟨_, rfl, _, rfl, l, _, rfl, .inl (SqL.of hl), b, cs, ins.length, by rw [ll]; rfl, .inl hb1, l9, ?_⟩
    rcases ends ins nI with ⟨ok, Qk⟩ | ⟨bad, Ek⟩
    rotate_left
    · exact .inr ⟨bad, fun H' d sm hd => Ek H' d (s1.trans sm) hd⟩
    refine .inl ⟨ok, fun H2 s2 => ?_⟩
    have s02 := s1.trans s2
    have hl2 := s2 _ _ hl
    have lc : cs.length = ins.length := Classical.byContradiction fun z => ok (.inl z)
    have li := nI.le
    refine ⟨_, rfl, _, rfl, a, rfl, ⟨_, s02.seq ha⟩, fun D nD => ?_⟩
    refine lc_list (K := K) (a := a) (xs := vr) (fun j H' => Same H2 H' ∧ H' D = some (.lst (((rs.take j).map (comeF ins cs)).map V.int))) ⟨same_upd nD, upd_same⟩ (fun j H' _ ⟨sm, _⟩ => (s02.trans sm).seq ha) ?_ ?_
    · rintro j x H3 hx ⟨sm, hD⟩
      obtain ⟨r, hr', ra⟩ := paired_get hR j x hx
      have hjl := (List.getElem?_eq_some_iff.mp hr').1
      have okr := rls.ok r (List.mem_of_getElem? hr')
      have ra3 := ra.kp (Kp.of (s02.trans sm))
      have hl3 := sm _ _ hl2
      have hb3 := (s02.trans sm) _ _ hb
      refine ⟨rfl, ?_⟩
      refine ⟨_, rfl, _, rfl, l, b, _, _, rfl, SqL.of hl3, SqL.of hb3, fun D2 nD2 => ?_⟩
      refine lc_zip (K := K) (xs := ins.map V.str) (ys := cs.map V.int) (by rw [List.length_map, List.length_map, lc]) (fun k H' => Same H3 H' ∧ H' D2 = some (.lst ((((ins.zip cs).take k).map fun t => wt r t.1 * t.2).map V.int))) ⟨same_upd nD2, upd_same⟩ (fun k H' ⟨sm', _⟩ => ⟨SqL.of (sm' _ _ hl3), SqL.of (sm' _ _ hb3)⟩) ?_ ?_
      · rintro k x y T2 H6 hx2 hy2 ⟨sm6, hD6⟩ nT2
        obtain ⟨n, hn, rfl⟩ := map_str_get hx2
        obtain ⟨c, hc, rfl⟩ := map_int_get hy2
        have hk := (List.getElem?_eq_some_iff.mp hn).1
        have hzz : (ins.zip cs)[k]? = some (n, c) := by
          rw [List.getElem?_zip_eq_some]
          exact ⟨hn, hc⟩
        have sT2 := same_upd (o := .tup [.str n, .int c]) nT2
        refine ⟨T2, _, rfl, SqT.of upd_same, rfl, _, _, rfl, _, _, rfl, rfl, ?_⟩
        refine ⟨rfl, ?_⟩
        have w3 := okr.w3
        refine ⟨_, rfl, _, rfl, _, r, n, rfl, ra3.kp (Kp.of (sm6.trans sT2)), okr, fun H7 s7 => ?_⟩
        have bd : 0 ≤ wt r n ∧ wt r n ≤ 4 * r.ws.length := nmS_bd (n := n) okr.wv
        refine ⟨_, rfl, _, _, rfl, rfl, .inl ⟨by omega, by omega⟩, ?_⟩
        refine ⟨_, s7 _ _ (sT2 _ _ hD6), ?_, ((sm6.trans sT2).trans s7).put nD2, ?_⟩
        · rw [List.length_map, List.length_map, List.length_take]
          exact small1000 (by omega)
        · rw [upd_same, List.take_add_one, hzz, List.map_append, List.map_append]
          rfl
      rintro H6 ⟨sm6, hD6⟩
      rw [List.length_map, List.take_of_length_le (by rw [List.length_zip]; omega)] at hD6
      refine ⟨D2, _, rfl, SqL.of hD6, ?_⟩
      refine ⟨_, sm6 _ _ hD, ?_, (sm.trans sm6).put nD, ?_⟩
      · rw [List.length_map, List.length_map, List.length_take]
        exact small1000 (by omega)
      · rw [upd_same, List.take_add_one, hr', List.map_append, List.map_append]
        rfl
    rintro H3 ⟨sm, hD⟩
    rw [lr, List.take_length] at hD
    refine ⟨a, D, vr, rs, rs.map (comeF ins cs), rfl, (s02.trans sm).seq ha, paired_mono (fun _ _ => RuleAt.kp (Kp.of (s02.trans sm))) hR, rls, hD, List.length_map _, fun H4 q ys s4 nq nO hq => ?_⟩
    exact Qk H4 q ys ((s02.trans sm).trans s4) ((s02.trans sm).free nq) nO hq
end
end Hl

set_option Elab.async false
set_option linter.all false
set_option maxRecDepth 100000
set_option maxHeartbeats 4000000
namespace Hl
open PySem PySem.Spec PyProof.Rows L2 LamX
/-! a call by names alone -/
section
variable {X : Cx} {CX : CXT} {k : Nat} {f : Addr} {fd : FuncData} {ps ks : List Str} {sp : Sp} {E : XK} {x : Str} {p pos : Pos} {kws : List Keyword} {tk : TA}
  {g : List Value → List Value → List Value} {gV : List V → List V → List V}
theorem pe_callN0 (F : FnOk X.prog X.w X.K X.mg X.base CX k f fd ps sp) (hr : Room k X.A) (hg : Gl X x) (hm : X.mg x = some (.ref f))
    (hk : PySem.W.keepIn X.K (.ref f) = true) (hb : KBn X.K fd ps 0 ks g gV) (hx : Passes CX X E) (hkw : PK X kws tk)
    (hall : (backToKw pos (keywordEach kws X.env)).all (·.1.isSome) = true := by rfl)
    (hks : (backToKw pos (keywordEach kws X.env)).filterMap (·.1) = ks := by rfl)
    (hdb : (x == ("__debug__" : Str)) = false := by decide)
    (hpl : ((backTo pos (starEach [] X.env)).any (·.1) || (backToKw pos (keywordEach kws X.env)).any (·.1.isNone)) = false := by rfl) :
    PE X (.Call (.Name x p) [] kws pos) (tCallN 0 ks.length sp gV E tNil tk) := by
  constructor
  intro pins s σ H Q I h
  refine wpAny_Call_Name_kw (ld_glob I hg hm ?_ hdb)
  refine PySem.W.callWith_KW0 (h₀ := X.base) I.ok.mod.kin hk hall (thn (hkw.run pos pins s σ H _ I h) ?_) hpl
  rintro ws s2 ⟨zs, H2, I2, rz, l1, l2, q2⟩
  refine ⟨I2.kIn, ?_⟩
  rw [hks]
  exact run_fnN (us := []) (vs := []) F hr hb hx I2 .nil rz l1 l2 q2
end
theorem nd_tbl {ps : Array Value} : Nd (.tbl ps) := fun _ _ _ _ _ h => by cases h
theorem nd_code {c : Addr} {q : Str} : Nd (CodeO c q) := fun _ _ _ _ _ h => by
  unfold CodeO at h
  cases h
theorem tabs_kp {T : List (Addr × Str)} {H H' : Hp} (k : Kp H H') (t : Tabs T H) : Tabs T H' := fun p hp => by
  obtain ⟨ps, h1, h2, h3⟩ := t p hp
  refine ⟨ps, k.keep _ _ nd_tbl h1, h2, fun pos cv hc => ?_⟩
  obtain ⟨c, e1, e2⟩ := h3 pos cv hc
  exact ⟨c, e1, k.keep _ _ nd_code e2⟩
theorem deal_ext {H H' : Hp} {p l : Addr} (e : ExtN H H') (d : Deal H p l) : Deal H' p l := by
  obtain ⟨ns, a, z, m, c, hp, hl, r⟩ := d
  exact ⟨ns, a, z, m, c, e _ _ hp (fun ps h => by cases h), e _ _ hl (fun ps h => by cases h), r⟩
theorem ext_lst {H H' : Hp} {b : Addr} {xs : List V} (e : ExtN H H') (h : H b = some (.lst xs)) : H' b = some (.lst xs) := e _ _ h (fun ps h => by cases h)
theorem ext_tup {H H' : Hp} {b : Addr} {xs : List V} (e : ExtN H H') (h : H b = some (.tup xs)) : H' b = some (.tup xs) := e _ _ h (fun ps h => by cases h)
theorem RuleAt.ext {H H' : Hp} {v : V} {r : Rl} (e : ExtN H H') (h : RuleAt H v r) : RuleAt H' v r := by
  have pr : ∀ {t : Addr} {ps : List (Str × Int)}, PairsAt H t ps → PairsAt H' t ps := fun ⟨vs, ⟨u, d, h1⟩, p⟩ =>
    ⟨vs, ⟨u, d, e _ _ h1 (fun ps h => by cases h)⟩, paired_mono (fun _ _ ⟨a, e1, e2⟩ => ⟨a, e1, ext_tup e e2⟩) p⟩
  obtain ⟨t, wt, gt, e0, h, h1, h2⟩ := h
  exact ⟨t, wt, gt, e0, ext_tup e h, pr h1, pr h2⟩
/-- by names alone, in the other order -/
def kSw {α : Type} : List α → List α → List α
  | _, [a, b] => [b, a]
  | _, l => l
theorem kSw_rel {vs zs : List V} {us ws : List Value} (_ : Vals vs us) (h2 : Vals zs ws) : Vals (kSw vs zs) (kSw us ws) := by
  cases h2 with
  | nil => exact .nil
  | cons a r =>
    cases r with
    | nil => exact .cons a .nil
    | cons b r =>
      cases r with
      | nil => exact .cons b (.cons a .nil)
      | cons c r => exact .cons a (.cons b (.cons c r))
/-! rules as data -/
def prD (p : Str × Int) : PyData := .tuple [.str p.1, .int p.2]
def moD : Option Int → PyData
  | none => .none
  | some k => .int k
def rlD (r : Rl) : PyData := .tuple [.str "each", .int r.e, .int r.a, .tuple (r.ws.map prD), .tuple (r.gs.map prD), moD r.m]
theorem prs_dp {K : PySem.W.Frag} {H : Hp} : ∀ {vs : List V} {ps : List (Str × Int)}, Paired (PairAt H) vs ps → DpAll K H vs (ps.map prD)
  | _, _, .nil => .nil
  | _, _, .cons ⟨a, e, h⟩ r => by
    subst e
    exact .cons (.tup (SqT.of h) (.cons (.str _) (.cons (.int _) .nil))) (prs_dp r)
theorem mo_dp {K : PySem.W.Frag} {H : Hp} : ∀ m : Option Int, Dp K H (moV m) (moD m)
  | none => .non
  | some k => .int k
theorem rule_dp {K : PySem.W.Frag} {H : Hp} {v : V} {r : Rl} (h : RuleAt H v r) : Dp K H v (rlD r) := by
  obtain ⟨t, wt, gt, e, h, ⟨vs, h1, p1⟩, ⟨us, h2, p2⟩⟩ := h
  subst e
  exact .tup (SqT.of h) (.cons (.str _) (.cons (.int _) (.cons (.int _) (.cons (.tup (.inl h1.rd) (prs_dp p1)) (.cons (.tup (.inl h2.rd) (prs_dp p2)) (.cons (mo_dp _) .nil))))))
theorem rules_dp {K : PySem.W.Frag} {H : Hp} : ∀ {vs : List V} {rs : List Rl}, Paired (RuleAt H) vs rs → DpAll K H vs (rs.map rlD)
  | _, _, .nil => .nil
  | _, _, .cons h r => .cons (rule_dp h) (rules_dp r)
theorem prs_lay : ∀ {ps : List (Str × Int)}, (∀ p ∈ ps, Good p.1) → PyData.canLayAll0 (ps.map prD) = true ∧ PyData.depthAll (ps.map prD) ≤ 2
  | [], _ => ⟨by simp [PyData.canLayAll0], by simp [PyData.depthAll]⟩
  | p :: ps, h => by
    obtain ⟨h1, h2⟩ := prs_lay (ps := ps) fun q hq => h q (List.mem_cons_of_mem _ hq)
    have h3 := strOk_good (h p List.mem_cons_self)
    refine ⟨?_, ?_⟩
    · simp only [List.map_cons, PyData.canLayAll0, prD, PyData.canLay0, h1, h3, Bool.and_true]
    · simp only [List.map_cons, PyData.depthAll, prD, PyData.depth]
      omega
theorem rl_lay {r : Rl} (h : OkR r) : (rlD r).canLay0 = true ∧ (rlD r).depth ≤ 4 := by
  obtain ⟨a1, a2⟩ := prs_lay h.wg
  obtain ⟨b1, b2⟩ := prs_lay h.gg
  have e : PyData.strOk "each" = true := by decide +kernel
  refine ⟨?_, ?_⟩
  · cases hm : r.m <;> simp only [rlD, PyData.canLay0, PyData.canLayAll0, hm, moD, a1, b1, e, Bool.and_true]
  · cases hm : r.m <;> simp only [rlD, PyData.depth, PyData.depthAll, hm, moD] <;> omega
theorem rls_lay : ∀ {rs : List Rl}, (∀ r ∈ rs, OkR r) → PyData.canLayAll0 (rs.map rlD) = true ∧ PyData.depthAll (rs.map rlD) ≤ 4
  | [], _ => ⟨by simp [PyData.canLayAll0], by simp [PyData.depthAll]⟩
  | r :: rs, h => by
    obtain ⟨h1, h2⟩ := rls_lay (rs := rs) fun q hq => h q (List.mem_cons_of_mem _ hq)
    obtain ⟨a1, a2⟩ := rl_lay (h r List.mem_cons_self)
    refine ⟨?_, ?_⟩
    · simp only [List.map_cons, PyData.canLayAll0, h1, a1, Bool.and_true]
    · simp only [List.map_cons, PyData.depthAll]
      omega
/-- what is handed, as data -/
def hdD (rs : List Rl) (cs : List Int) : PyData := .list [.list (rs.map rlD), .list (cs.map PyData.int)]
theorem hd_lay {rs : List Rl} {cs : List Int} (h : ∀ r ∈ rs, OkR r) : (hdD rs cs).canLay0 = true ∧ SeqAt.shaped (hdD rs cs) = true := by
  obtain ⟨h1, h2⟩ := rls_lay h
  have h3 := ints_lay cs
  have h4 := ints_depth cs
  have c : (hdD rs cs).canLay0 = true := by
    simp only [hdD, PyData.canLay0, PyData.canLayAll0, h1, h3, Bool.and_true]
  refine ⟨c, ?_⟩
  have d : (hdD rs cs).depth ≤ 64 := by
    simp only [hdD, PyData.depth, PyData.depthAll]
    omega
  show (PyData.canLay0 (hdD rs cs) && decide (PyData.depth (hdD rs cs) ≤ 64)) = true
  rw [Bool.and_eq_true]
  exact ⟨c, decide_eq_true d⟩
/-! a row but its first, but its last -/
theorem cutDrop1 (xs : List V) : cutV xs (some 1) none = xs.drop 1 := by
  unfold cutV
  rw [HT.sIx_none, show HT.sIx xs.length 0 (some 1) = min 1 xs.length from HT.sIx_nat xs.length 0 1]
  cases xs with
  | nil => rfl
  | cons x xs =>
    have e : min 1 (x :: xs).length = 1 := by rw [List.length_cons]; omega
    rw [e]
    exact List.take_of_length_le (by simp)
end Hl

set_option Elab.async false
set_option linter.all false
set_option maxRecDepth 100000
set_option maxHeartbeats 4000000
namespace Hl
open PySem PySem.Spec PyProof.Rows L2 LamX
abbrev sLaw : Stmt := topS 42
def spLaw (K : PySem.W.Frag) (P : Addr) : Sp := fun vs H Q _ => ∃ (a : Addr) (ns : List Int), vs = [.ref a] ∧ SqL K H a (ns.map V.int) ∧ ns.length ≤ 63 ∧ H P = some (.tbl #[]) ∧ ∀ H', Q (.bl true) H'
abbrev nmLaw : List Str := ["_law_script", "_law_deal_here", "_law_turn", "_law_ins", "_law_step", "_law_amounts", "_law_handed", "_law_bad", "_law_given_rules", "_law_name"]
theorem scZ : FnScope nmLaw ["_law_script"] (defScope sLaw) := ⟨rfl, rfl, rfl, by decide +kernel, rfl, by decide +kernel, by decide +kernel⟩
theorem cut_ints (as : List Int) (lo hi : Option Int) : ∃ bs : List Int, cutV (as.map V.int) lo hi = bs.map V.int ∧ bs.length ≤ as.length := by
  unfold cutV
  refine ⟨(as.drop _).take _, by rw [List.map_take, List.map_drop], ?_⟩
  rw [List.length_take, List.length_drop]
  omega
theorem nd_four {a b c d : Addr} : Nd (.lst [.ref a, .ref b, .ref c, .ref d]) := nd_refs (ns := [a, b, c, d])
section
variable {P : Program} {w : World} {K : PySem.W.Frag} {mg : Str → Option Value} {base : Heap}
theorem ok_law {f f1 f2 f3 f4 f5 f6 f7 fW fB BC c Pt : Addr} {d1 d2 d3 d4 d5' d6 d7 dW dB : FuncData} {oc kV doc pm ct : Value} {od an : Option Addr} {osl : Array (Option Value)} {Ec : Hw.ErrA} {k n : Nat}
    (lk : K.lookup f = some ⟨oc, od, .func (PySem.W.fnOf "law" "law" (defArgs sLaw) (defBody sLaw) (defScope sLaw) .none kV doc pm an (.ref c) ct), osl⟩) (hcd : PySem.W.codeIn K (.ref c) "law" = true) (TB : TabB base mg c Pt) (B : Bi mg) (J : Bj mg)
    (D : Has P w K mg base (k + 2) "_law_deal" ["_law_script"] (spDeal K) f1 d1)
    (Ar : Has P w K mg base (k + 2) "_law_any_rules" ["_law_deal_here"] spAr f2 d2)
    (L : Has P w K mg base (k + 2) "_law_like" ["_law_found", "_law_due"] (spLike K (n + 4)) f3 d3)
    (Pk : Has P w K mg base (k + 2) "_law_pick" ["_law_deal_here", "_law_many"] spPick f4 d4)
    (O : Has P w K mg base (k + 2) "_law_of" ["_law_deal_here", "_law_some"] spOf f5 d5')
    (No : Has P w K mg base (k + 2) "_law_names_of" ["_law_given_rules", "_law_place"] (spNo K) f6 d6)
    (So : Has P w K mg base (k + 2) "_law_sent_of" ["_law_given_rules", "_law_amounts"] (spSo K) f7 d7)
    (FW : Fun K "_law_why" "_law_why" Hw.sWhy fW dW) (gW : mg "_law_why" = some (.ref fW)) (er : Hw.Errs mg Ec)
    (GB : FnOk P w K mg base (L2.CX P w) (k + 2) fB dB ["rules", "counts"] (spSb K BC)) (GB' : FnOk P w K mg base (L2.CX P w) k fB dB ["rules", "counts"] (spSb K BC)) (kB : PySem.W.keepIn K (.ref fB) = true) (bB : Binds K dB ["rules", "counts"] []) (gB : mg "sent_by" = some (.ref fB)) (nB : KBn K dB ["rules", "counts"] 0 ["counts", "rules"] kSw kSw)
    (xfB : XfC K BC) (eB1 : PySem.W.exmAny K (.ref BC) (Ec.l1.map Value.ref) = some false) (eB2 : PySem.W.exmAny K (.ref BC) (Ec.l2.map Value.ref) = some false) (eB3 : PySem.W.exmAny K (.ref BC) (Ec.l3.map Value.ref) = some false) (eB4 : PySem.W.exmAny K (.ref BC) [.ref Ec.e4] = some false) (eB5 : PySem.W.exmAny K (.ref BC) [.ref Ec.e5] = some false) (eB6 : PySem.W.exmAny K (.ref BC) [.ref Ec.e6] = some true)
    (nBw : PySem.W.findIn K (.ref BC) "word" = some none) :
    FnOk P w K mg base CX0 (k + 3) f (PySem.W.fnOf "law" "law" (defArgs sLaw) (defBody sLaw) (defScope sLaw) .none kV doc pm an (.ref c) ct) ["_law_script"] (spLaw K Pt) := by
  refine Hw.ok_at lk hcd scZ (fun vs H Q E h => ?_) (fun A outer s H vs Q E hr h => ?_)
  · obtain ⟨a, ns, rfl, _⟩ := h
    rfl
  obtain ⟨a, ns, rfl, hS, hlen, tb0, q⟩ := h
  refine ⟨_, (pss_cons (ps_set (i := 1) scZ.nd rfl (.inr rfl) (pe_call D.G hr (by rfl) D.g D.kp D.b .nil pass0 (pa_cons (pv 0) pa_nil)))
        (pss_cons (ps_for PassesOwn.never rfl (pi_range1 (by rfl) B.rng (pa_cons pe_int pa_nil)) (pg_name (i := 2) scZ.nd rfl (.inl rfl))
          (pss_cons (ps_set (i := 8) scZ.nd rfl (.inr rfl) (pe_call Ar.G hr (by rfl) Ar.g Ar.kp Ar.b .nil pass0 (pa_cons (pv 1) pa_nil)))
        (pss_cons (ps_set (i := 3) scZ.nd rfl (.inl rfl) (pe_call No.G hr (by rfl) No.g No.kp No.b .nil pass0 (pa_cons (pv 8) (pa_cons pe_int pa_nil))))
        (pss_one (ps_for PassesOwn.never rfl (pi_range1 (by rfl) B.rng (pa_cons pe_int pa_nil)) (pg_name (i := 4) scZ.nd rfl (.inl rfl))
          (Evl.pss_cut (ps_setLc (i := 5) (own := [("_law_name", 9)]) (g := gName 9) (tt := tYes) rfl scZ.nd rfl rfl (sw_true rfl rfl rfl (by decide +kernel)) (pi_list (pv 3)) (blkOk_by (own := [("_law_name", 9)]) (N := nmLaw) (sc := defScope sLaw) (by decide +kernel)) (fun _ _ _ _ _ => (pg_name (i := 9) scZ.nd rfl (Or.inl rfl))) (fun _ _ _ _ _ => pts_nil) (fun _ _ _ _ _ => (pe_call O.G hr (by rfl) O.g O.kp O.b .nil pass0 (pa_cons (pv 1) (pa_cons (pe_lst (pa_cons pe_int (pa_cons (pe_call Pk.G hr (by rfl) Pk.g Pk.kp Pk.b .nil pass0 (pa_cons (pv 1) (pa_cons pe_int pa_nil))) (pa_cons (pe_call Pk.G hr (by rfl) Pk.g Pk.kp Pk.b .nil pass0 (pa_cons (pv 1) (pa_cons pe_int pa_nil))) (pa_cons (pe_op op_sub (pe_op op_pow pe_int pe_int) pe_int) pa_nil))))) pa_nil)))))
        (pss_cons (ps_set (i := 6) scZ.nd rfl (.inl rfl) (pe_lst (pa_cons (pe_callTy call_list_of (by rfl) B.lst (by decide +kernel) (pa_cons (pv 8) pa_nil)) (pa_cons (pe_callTy call_list_of (by rfl) B.lst (by decide +kernel) (pa_cons (pv 5) pa_nil)) pa_nil))))
        (pss_cons (ps_if (pt_not (pt_val (pe_call L.G hr (by rfl) L.g L.kp L.b .nil pass0 (pa_cons (pe_call GB hr (by rfl) gB kB bB .nil passL (pa_cons (pe_ix (r := rIxL K) ix_list (pv 6) pe_int (fun _ _ => rfl)) (pa_cons (pe_ix (r := rIxL K) ix_list (pv 6) pe_int (fun _ _ => rfl)) pa_nil))) (pa_cons (pe_call So.G hr (by rfl) So.g So.kp So.b .nil pass0 (pa_cons (pv 8) (pa_cons (pv 5) pa_nil))) pa_nil))))) (pss_one (ps_ret pe_bl)) pss_nil)
        (pss_cons (ps_if (pt_cmpR (op_neD hr.units) (pv 6) (pe_lst (pa_cons (pv 8) (pa_cons (pv 5) pa_nil))) (nomark _)) (pss_one (ps_ret pe_bl)) pss_nil)
        (Evl.pss_cut (ps_set (i := 7) scZ.nd rfl (.inr rfl) (pe_call O.G hr (by rfl) O.g O.kp O.b .nil pass0 (pa_cons (pv 1) (pa_cons (pe_lst (pa_cons (pe_op op_cat (pv 5) (pe_lst (pa_cons pe_int pa_nil))) (pa_cons (pe_slice sl_list (pv 5) (po_some pe_int) po_none) (pa_cons (pe_op op_cat (pe_lst (pa_cons (pe_un un_neg pe_int) pa_nil)) (pe_slice sl_list (pv 5) (po_some pe_int) po_none)) (pa_cons (pe_op op_cat (pe_slice sl_list (pv 5) po_none (po_some (pe_un un_neg pe_int))) (pe_lst (pa_cons (pe_op op_sub pe_int (pe_op op_pow pe_int pe_int)) pa_nil))) pa_nil))))) pa_nil))))
        (pss_one (ps_if (pt_not (pt_val (pe_call L.G hr (by rfl) L.g L.kp L.b .nil pass0 (pa_cons (Hw.pe_why FW gW er (by rfl) TB rfl hr (lamS_by (sc := defScope sLaw) (by decide +kernel)) rfl (fun _ _ _ _ _ => rfl) (fun A outer s H E f c' hrL => (pe_callN0 GB' hrL (by rfl) gB kB nB (passes_call (takes_of rfl rfl rfl rfl) (fun _ _ _ _ h => h)) (pk_cons (pv 7) (pk_cons (pv 8) pk_nil))))) (pa_cons (pe_tup (pa_cons pe_str pa_nil)) pa_nil))))) (pss_one (ps_ret pe_bl)) pss_nil))))))))))))
        (pss_one (ps_ret pe_bl)))), ?_⟩
  have tabs0 : Tabs [(Pt, "law.<locals>.<lambda>")] H := fun p hp => by
    cases List.mem_singleton.mp hp
    exact TabS.nil tb0
  refine ⟨_, rfl, a, ns, rfl, hS, hlen, fun H1 p l sm1 np dl1 => ?_⟩
  refine ⟨7, rfl, by decide, by decide, for_range (lo := 0) (n := 7) (fun i σ H' => ∃ v2 v3 v4 v5 v6 v7 v8 : Option V, σ = [some (.ref a), some (.ref p), v2, v3, v4, v5, v6, v7, v8, none] ∧ Deal H' p l ∧ Tabs [(Pt, "law.<locals>.<lambda>")] H')
    ⟨_, _, _, _, _, _, _, rfl, dl1, tabs0.ext sm1⟩ ?_ (fun σ H' _ => q H')⟩
  rintro i σ H2 hi ⟨v2, v3, v4, v5, v6, v7, v8, rfl, dl2, tb2⟩
  refine ⟨_, rfl, p, l, rfl, dl2, fun H3 g vr rs k3 dl3 hg hR rls => ?_⟩
  have tb3 := tabs_kp k3 tb2
  refine ⟨_, rfl, g, vr, rs, 3, rfl, SqL.of hg, hR, rls, .inl rfl, fun H4 qi ins s4 ni hqi nI => ?_⟩
  have n12 := rls.n12
  have n1 := rls.n1
  have li := nI.le
  have lr := hR.length
  have i1 : 1 ≤ ins.length := by
    obtain ⟨r, rs', e⟩ : ∃ r rs', rs = r :: rs' := by
      cases hrs : rs with
      | nil => rw [hrs] at n1; exact absurd n1 (by decide)
      | cons r rs' => exact ⟨r, rs', rfl⟩
    have hrm : r ∈ rs := by rw [e]; exact List.mem_cons_self
    have o1 := (rls.ok r hrm).w1
    obtain ⟨x, hx⟩ : ∃ x, x ∈ (prF r 3).map (·.1) := by
      show ∃ x, x ∈ r.ws.map (·.1)
      cases hw : r.ws with
      | nil => rw [hw] at o1; exact absurd o1 (by decide)
      | cons y ys => exact ⟨_, List.mem_cons_self⟩
    have hm := (nI.me x).mpr ⟨r, hrm, hx⟩
    exact List.length_pos_of_mem hm
  refine ⟨3, rfl, by decide, by decide, for_range (lo := 0) (n := 3) (fun j σ H' => ∃ v4 v5 v6 v7 : Option V, σ = [some (.ref a), some (.ref p), some (.int (0 + i)), some (.ref qi), v4, v5, v6, v7, some (.ref g), none] ∧ Deal H' p l ∧ Tabs [(Pt, "law.<locals>.<lambda>")] H' ∧ H' qi = some (.lst (ins.map V.str)) ∧ H' g = some (.lst vr) ∧ Paired (RuleAt H') vr rs)
    ⟨_, _, _, _, rfl, dl3.same s4, tb3.ext s4, hqi, s4 _ _ hg, paired_mono (fun _ _ => RuleAt.kp (Kp.of s4)) hR⟩ ?_ (fun σ H' ⟨_, _, _, _, e, d, t, _⟩ => ⟨_, _, _, _, _, _, _, e, d, t⟩)⟩
  rintro j σ H5 hj ⟨v4, v5, v6, v7, rfl, dl5, tb5, hqi5, hg5, hR5⟩
  -- amounts
  refine ⟨fun σ' H' => ∃ (b : Addr) (as : List Int), σ' = [some (.ref a), some (.ref p), some (.int (0 + i)), some (.ref qi), some (.int (0 + j)), some (.ref b), v6, v7, some (.ref g), none] ∧ Deal H' p l ∧ Tabs [(Pt, "law.<locals>.<lambda>")] H' ∧ H' qi = some (.lst (ins.map V.str)) ∧ H' g = some (.lst vr) ∧ Paired (RuleAt H') vr rs ∧ H' b = some (.lst (as.map V.int)) ∧ as.length = ins.length ∧ ∀ x ∈ as, 0 ≤ x, ?_, ?_⟩
  · refine ⟨_, rfl, qi, rfl, ⟨_, SqL.of hqi5⟩, fun D nD => ?_⟩
    have sD := same_upd (o := .lst []) nD
    have npD := dl5.ne nD
    have nlD := dl5.nl nD
    refine lc_list (K := K) (a := qi) (xs := ins.map V.str) (fun m H' => ∃ as : List Int, Kp H5 H' ∧ Deal H' p l ∧ H' D = some (.lst (as.map V.int)) ∧ as.length = m ∧ ∀ x ∈ as, 0 ≤ x) ⟨[], Kp.of sD, dl5.same sD, upd_same, rfl, fun x hx => by cases hx⟩ (fun m H' _ ⟨_, k, _⟩ => SqL.of (k.keep _ _ nd_strs hqi5)) ?_ ?_
    · rintro m x H6 hx ⟨as, k6, dl6, hD6, la, pos⟩
      have hm := (List.getElem?_eq_some_iff.mp hx).1
      rw [List.length_map] at hm
      refine ⟨rfl, ?_⟩
      refine ⟨_, rfl, _, rfl, p, l, 12, rfl, dl6, by decide, lg (b := 11) (by decide) (by decide) (by decide), fun H7 r7 k7 dl7 a0 a1 => ?_⟩
      refine ⟨_, rfl, p, l, 40, rfl, dl7, by decide, lg (b := 11) (by decide) (by decide) (by decide), fun H8 r8 k8 dl8 b0 b1 => ?_⟩
      refine ⟨_, _, rfl, rfl, ⟨by decide, by decide, by decide⟩, _, _, rfl, rfl, (by show 4 ≤ sizeLine; decide), fun z nz => ?_⟩
      have sz := same_upd (o := .lst [V.int 0, V.int r7, V.int r8, V.int (10 ^ (9 : Int).toNat - 1)]) nz
      refine ⟨p, l, z, _, rfl, dl8.same sz, upd_same, nd_lst (fun x r e a => by cases e; exact fun h => by cases h), (by show 0 < 4; decide), (by show 4 ≤ 1000; decide), fun H9 y hy k9 dl9 => ?_⟩
      obtain ⟨v, rfl, v0⟩ : ∃ v : Int, y = .int v ∧ 0 ≤ v := by
        simp only [List.mem_cons, List.not_mem_nil, or_false] at hy
        rcases hy with rfl | rfl | rfl | rfl
        · exact ⟨_, rfl, by decide⟩
        · exact ⟨_, rfl, a0⟩
        · exact ⟨_, rfl, b0⟩
        · exact ⟨_, rfl, by decide +kernel⟩
      have k69 := (k7.trans k8).trans ((Kp.of sz).trans k9)
      have hD9 := k69.keep _ _ nd_ints hD6
      refine ⟨_, hD9, ?_, as ++ [v], (k6.trans k69).put nD, dl9.put npD nlD, ?_, ?_, ?_⟩
      · rw [List.length_map]
        exact small1000 (by omega)
      · rw [upd_same, List.map_append]
        rfl
      · rw [List.length_append, List.length_singleton, la]
      · intro x hx
        rcases List.mem_append.mp hx with h | h
        · exact pos x h
        · rw [List.mem_singleton.mp h]
          exact v0
    · rintro H6 ⟨as, k6, dl6, hD6, la, pos⟩
      rw [List.length_map] at la
      exact ⟨D, as, rfl, dl6, tabs_kp k6 tb5, k6.keep _ _ nd_strs hqi5, k6.keep _ _ (nd_rules hR5) hg5, paired_mono (fun _ _ => RuleAt.kp k6) hR5, hD6, la, pos⟩
  rintro σ' H6 ⟨b, as, rfl, dl6, tb6, hqi6, hg6, hR6, hb6, la, pos⟩
  clear dl5 tb5 hqi5 hg5 hR5
  -- what is handed
  refine ⟨_, rfl, g, vr, rfl, .inl (SqL.of hg6), fun c1 nc1 => ?_⟩
  have t1 := same_upd (o := .lst vr) nc1
  refine ⟨_, rfl, b, _, rfl, .inl (SqL.of (t1 _ _ hb6)), fun c2 nc2 => ?_⟩
  have t2 := same_upd (o := .lst (as.map V.int)) nc2
  refine ⟨(by show 2 ≤ sizeLine; decide), fun hd nhd => ?_⟩
  have t3 := same_upd (o := .lst [.ref c1, .ref c2]) nhd
  have h1 := t3 _ _ (t2 _ _ (upd_same (H := H6) (a := c1) (o := .lst vr)))
  have h2 := t3 _ _ (upd_same (H := upd H6 c1 (.lst vr)) (a := c2) (o := .lst (as.map V.int)))
  have h3 : (upd (upd (upd H6 c1 (.lst vr)) c2 (.lst (as.map V.int))) hd (.lst [.ref c1, .ref c2])) hd = some (.lst [.ref c1, .ref c2]) := upd_same
  have t13 := (t1.trans t2).trans t3
  generalize (upd (upd (upd H6 c1 (.lst vr)) c2 (.lst (as.map V.int))) hd (.lst [.ref c1, .ref c2])) = H7 at *
  have hR7 := paired_mono (fun _ _ => RuleAt.kp (Kp.of t13)) hR6
  have hg7 := t13 _ _ hg6
  have hb7 := t13 _ _ hb6
  have okc : ¬ badC ins.length as := fun z => z.elim (fun z => z la) fun ⟨x, hx, h⟩ => by
    have := pos x hx
    omega
  -- the same
  refine ⟨_, rfl, hd, _, 0, _, rfl, rfl, SqL.of h3, atI_nat (j := 0) rfl, _, rfl, hd, _, 1, _, rfl, rfl, SqL.of h3, atI_nat (j := 1) rfl, ?_⟩
  refine ⟨c1, c2, vr, rs, as, rfl, SqL.of h1, hR7, rls, h2, by omega, fun ins' nI' => .inl ⟨by rw [nI'.one nI]; exact okc, fun H8 q8 ys s8 nq8 nO hq8 => ?_⟩⟩
  rw [nI'.one nI] at hq8
  refine ⟨_, rfl, _, rfl, g, b, vr, rs, ins, as, rfl, SqL.of (s8 _ _ hg7), paired_mono (fun _ _ => RuleAt.kp (Kp.of s8)) hR7, rls, s8 _ _ hb7, nI, la, fun H9 q9 outs s9 nq9 nO' hq9 => ?_⟩
  rw [nO'.one nO] at hq9
  have lys := nO.le
  refine ⟨_, _, rfl, lk_list (SqL.of (s9 _ _ hq8)) (SqL.of hq9) (lk_ints _) (by rw [List.length_map, sAll_len]; omega), fun H10 s10 => ⟨_, rfl, iF rfl ?_⟩⟩
  have s810 := (s8.trans s9).trans s10
  have dl10 := (dl6.same t13).same s810
  have tb10 := (tb6.ext t13).ext s810
  have hqi10 := s810 _ _ (t13 _ _ hqi6)
  have hg10 := s810 _ _ hg7
  have hR10 := paired_mono (fun _ _ => RuleAt.kp (Kp.of s810)) hR7
  have hb10 := s810 _ _ hb7
  have h1' := s810 _ _ h1
  have h2' := s810 _ _ h2
  have h3' := s810 _ _ h3
  clear hq8 hq9 s8 s9 s10 s810 dl6 tb6 hqi6 hg6 hR6 hb6 hg7 hb7 hR7 h1 h2 h3 t1 t2 t3 t13
  -- nothing is changed
  refine ⟨_, rfl, _, rfl, _, rfl, (by show 2 ≤ sizeLine; decide), fun z nz => ?_⟩
  have sz := same_upd (o := .lst [.ref g, .ref b]) nz
  obtain ⟨cl, sh⟩ := hd_lay (cs := as) rls.ok
  have hRz := paired_mono (fun _ _ => RuleAt.kp (Kp.of sz)) hR10
  refine ⟨hdD rs as, hdD rs as, .lst (SqL.of (sz _ _ h3')) (.cons (.lst (SqL.of (sz _ _ h1')) (rules_dp hRz)) (.cons (.lst (SqL.of (sz _ _ h2')) (ints_dp _)) .nil)), .lst (SqL.of upd_same) (.cons (.lst (SqL.of (sz _ _ hg10)) (rules_dp hRz)) (.cons (.lst (SqL.of (sz _ _ hb10)) (ints_dp _)) .nil)), sh, sh, _, rfl, ?_⟩
  rw [PySem.SeqAt.eqv_refl _ cl]
  refine iF rfl ?_
  have dlz := dl10.same sz
  have tbz := tb10.ext sz
  have hqiz := sz _ _ hqi10
  have hgz := sz _ _ hg10
  have hbz := sz _ _ hb10
  have hRz' := hRz
  generalize (upd H10 z (.lst [.ref g, .ref b])) = H11 at *
  clear h1' h2' h3' hb10 hg10 hqi10 tb10 dl10 hR10
  -- bent amounts
  refine ⟨fun σ' H' => ∃ (u : Addr) (bs : List Int), σ' = [some (.ref a), some (.ref p), some (.int (0 + i)), some (.ref qi), some (.int (0 + j)), some (.ref b), some (.ref hd), some (.ref u), some (.ref g), none] ∧ Deal H' p l ∧ Tabs [(Pt, "law.<locals>.<lambda>")] H' ∧ H' qi = some (.lst (ins.map V.str)) ∧ H' g = some (.lst vr) ∧ Paired (RuleAt H') vr rs ∧ H' u = some (.lst (bs.map V.int)) ∧ badC ins.length bs ∧ bs.length ≤ 900, ?_, ?_⟩
  · refine ⟨_, rfl, _, rfl, (by show 1 ≤ sizeLine; decide), fun z1 nz1 => ?_⟩
    have u1 := same_upd (o := .lst [.int 0]) nz1
    refine ⟨b, z1, _, _, rfl, rfl, u1 _ _ hbz, upd_same, ?_, fun C1 nC1 => ?_⟩
    · rw [List.length_map]
      exact Nat.le_of_lt (small1000 (by show as.length + 1 ≤ _; omega))
    have u2 := same_upd (o := .lst (as.map V.int ++ [.int 0])) nC1
    have hq2 := u2 _ _ (u1 _ _ hbz)
    refine ⟨_, rfl, 1, rfl, b, _, rfl, SqL.of hq2, fun S1 nS1 => ?_⟩
    obtain ⟨ds, eds, lds⟩ : ∃ ds : List Int, cutV (as.map V.int) (some 1) none = ds.map V.int ∧ ds.length = as.length - 1 := ⟨as.drop 1, by rw [cutDrop1, List.map_drop], List.length_drop⟩
    rw [eds]
    have u3 := same_upd (o := .lst (ds.map V.int)) nS1
    refine ⟨_, rfl, (by show 1 ≤ sizeLine; decide), fun z2 nz2 => ?_⟩
    have u4 := same_upd (o := .lst [.int (-1)]) nz2
    refine ⟨_, rfl, 1, rfl, b, _, rfl, SqL.of (u4 _ _ (u3 _ _ hq2)), fun S2 nS2 => ?_⟩
    rw [eds]
    have u5 := same_upd (o := .lst (ds.map V.int)) nS2
    refine ⟨z2, S2, _, _, rfl, rfl, u5 _ _ upd_same, upd_same, ?_, fun C2 nC2 => ?_⟩
    · rw [List.length_map]
      exact Nat.le_of_lt (small1000 (by show 1 + ds.length ≤ _; omega))
    have u6 := same_upd (o := .lst ([.int (-1)] ++ ds.map V.int)) nC2
    refine ⟨_, rfl, _, rfl, _, rfl, b, _, rfl, SqL.of (u6 _ _ (u5 _ _ (u4 _ _ (u3 _ _ hq2)))), fun S3 nS3 => ?_⟩
    obtain ⟨ts, ets, lts⟩ := cut_ints as none (some (-1))
    rw [ets]
    have u7 := same_upd (o := .lst (ts.map V.int)) nS3
    refine ⟨_, _, rfl, rfl, ⟨by decide, by decide, by decide⟩, _, _, rfl, rfl, (by show 1 ≤ sizeLine; decide), fun z3 nz3 => ?_⟩
    have u8 := same_upd (o := .lst [.int (1 - 10 ^ (9 : Int).toNat)]) nz3
    refine ⟨S3, z3, _, _, rfl, rfl, u8 _ _ upd_same, upd_same, ?_, fun C3 nC3 => ?_⟩
    · rw [List.length_map]
      exact Nat.le_of_lt (small1000 (by show ts.length + 1 ≤ _; omega))
    have u9 := same_upd (o := .lst (ts.map V.int ++ [.int (1 - 10 ^ (9 : Int).toNat)])) nC3
    refine ⟨(by show 4 ≤ sizeLine; decide), fun z4 nz4 => ?_⟩
    have u10 := same_upd (o := .lst [.ref C1, .ref S1, .ref C2, .ref C3]) nz4
    have g4 := u10 C3 _ (upd_same (o := .lst (ts.map V.int ++ [.int (1 - 10 ^ (9 : Int).toNat)])))
    have u710 := (u7.trans u8).trans (u9.trans u10)
    have g3 := u710 C2 _ (upd_same (o := .lst ([.int (-1)] ++ ds.map V.int)))
    have u410 := (u4.trans u5).trans (u6.trans u710)
    have g2 := u410 S1 _ (upd_same (o := .lst (ds.map V.int)))
    have g1 := (u3.trans u410) C1 _ (upd_same (o := .lst (as.map V.int ++ [.int 0])))
    have ua := (u1.trans u2).trans (u3.trans u410)
    refine ⟨p, l, z4, _, rfl, dlz.same ua, upd_same, nd_four, (by show 0 < 4; decide), (by show 4 ≤ 1000; decide), fun H12 y hy k12 dl12 => ?_⟩
    obtain ⟨y', u, bs, rfl, hu, bad, lb⟩ : ∃ (y' : V) (u : Addr) (bs : List Int), y = .ref u ∧ H12 u = some (.lst (bs.map V.int)) ∧ badC ins.length bs ∧ bs.length ≤ 900 := by
      simp only [List.mem_cons, List.not_mem_nil, or_false] at hy
      rcases hy with rfl | rfl | rfl | rfl
      · refine ⟨.non, C1, as ++ [0], rfl, ?_, .inl ?_, ?_⟩
        · exact k12.keep _ _ nd_ints (g1.trans (show _ = some (HO.lst ((as ++ [0]).map V.int)) by rw [List.map_append]; rfl))
        · rw [List.length_append, la]
          show ins.length + 1 ≠ _
          omega
        · rw [List.length_append]
          show as.length + 1 ≤ _
          omega
      · exact ⟨.non, S1, ds, rfl, k12.keep _ _ nd_ints g2, .inl (by omega), by omega⟩
      · refine ⟨.non, C2, -1 :: ds, rfl, ?_, .inr ⟨-1, List.mem_cons_self, by decide⟩, ?_⟩
        · exact k12.keep _ _ nd_ints (show _ = some (HO.lst ((-1 :: ds).map V.int)) from g3)
        · rw [List.length_cons]
          omega
      · refine ⟨.non, C3, ts ++ [1 - 10 ^ (9 : Int).toNat], rfl, ?_, .inr ⟨1 - 10 ^ (9 : Int).toNat, List.mem_append_right _ List.mem_cons_self, by decide +kernel⟩, ?_⟩
        · exact k12.keep _ _ nd_ints (g4.trans (show _ = some (HO.lst ((ts ++ [1 - 10 ^ (9 : Int).toNat]).map V.int)) by rw [List.map_append]; rfl))
        · rw [List.length_append]
          show ts.length + 1 ≤ _
          omega
    have ka := (Kp.of ua).trans k12
    exact ⟨u, bs, rfl, dl12, tabs_kp ka tbz, ka.keep _ _ nd_strs hqiz, ka.keep _ _ (nd_rules hRz') hgz, paired_mono (fun _ _ => RuleAt.kp ka) hRz', hu, bad, lb⟩
  rintro σ' H12 ⟨u, bs, rfl, dl12, tb12, hqi12, hg12, hR12, hu12, bad, lbd⟩
  refine ⟨tb12, fun H13 ex13 tb13 => ?_⟩
  refine ⟨_, rfl, _, rfl, rfl, rfl, ?_⟩
  refine ⟨g, u, vr, rs, bs, rfl, SqL.of (ext_lst ex13 hg12), paired_mono (fun _ _ => RuleAt.ext ex13) hR12, rls, ext_lst ex13 hu12, lbd, fun ins' nI' => .inr ⟨by rw [nI'.one nI]; exact bad, fun H14 d s14 hd14 => ?_⟩⟩
  refine Hw.why_6 eB1 eB2 eB3 eB4 eB5 eB6 xfB hd14 (.cons ⟨nBw, rfl⟩ .nil) (by show 1 ≤ 1000; decide) fun p1 np1 => ?_
  have x1 := same_upd (o := .tup [.str "BadCounts"]) np1
  refine ⟨(by show 1 ≤ sizeLine; decide), fun p2 np2 => ?_⟩
  have x2 := same_upd (o := .tup [.str "BadCounts"]) np2
  refine ⟨_, _, rfl, lk_tup (SqT.of (x2 _ _ upd_same)) (SqT.of upd_same) (.cons (.str _) .nil) (by show 1 ≤ 1000; decide), fun H15 s15 => ⟨_, rfl, iF rfl ?_⟩⟩
  have y := ((s14.trans x1).trans x2).trans s15
  exact ⟨_, _, _, _, rfl, (deal_ext ex13 dl12).same y, tb13.ext y, y _ _ (ext_lst ex13 hqi12), y _ _ (ext_lst ex13 hg12), paired_mono (fun _ _ h => RuleAt.kp (Kp.of y) (RuleAt.ext ex13 h)) hR12⟩
end
end Hl

set_option Elab.async false
set_option linter.all false
set_option maxRecDepth 100000
set_option maxHeartbeats 0
namespace Hl
open PySem PySem.Spec PyProof.Rows L2 LamX He
theorem all_x {l : PySem.W.OpenLaw} {w : World} {K : PySem.W.Frag} {h : Heap} {mg : Str → Option Value} {fa : Addr} (X : K.In h) (G : h.Ns mainGlobals mg) (hfa' : mg "law" = some (.ref fa)) (c : SaysX hfa hfn [] [("law", none)] hex w h K) :
    LawAtS l w K CX0 13 63 "_law_script" mg fa h := by
  have cd := c.t.d
  have mr := c.more
  unfold hex at mr
  obtain ⟨x1, mr⟩ := He.ba mr
  obtain ⟨x2, mr⟩ := He.ba mr
  obtain ⟨x3, mr⟩ := He.ba mr
  obtain ⟨x4, mr⟩ := He.ba mr
  obtain ⟨x5, mr⟩ := He.ba mr
  obtain ⟨x6, mr⟩ := He.ba mr
  obtain ⟨x7, mr⟩ := He.ba mr
  obtain ⟨x8, mr⟩ := He.ba mr
  obtain ⟨fd1, D1⟩ := cd.def_ 0 (d := hd0) rfl
  have F1 : Fun K "added" "added" sAdd (ga K "added") fd1 := Hw.fun_of D1
  have k1 := F1.kp
  have g1 := He.glo_ok X G (cd.fact 0 (f := .glo "added") rfl)
  have b1 := F1.binds (ps := ["one", "other"]) fun _ _ _ _ _ _ us hl => match us, hl with | [_, _], _ => rfl
  obtain ⟨fd2, D2⟩ := cd.def_ 1 (d := hd1) rfl
  have F2 : Fun K "refuse_counts" "refuse_counts" sRct (ga K "refuse_counts") fd2 := Hw.fun_of D2
  have k2 := F2.kp
  have g2 := He.glo_ok X G (cd.fact 1 (f := .glo "refuse_counts") rfl)
  have b2 := F2.binds (ps := ["counts", "size"]) fun _ _ _ _ _ _ us hl => match us, hl with | [_, _], _ => rfl
  obtain ⟨fd3, D3⟩ := cd.def_ 2 (d := hd2) rfl
  have F3 : Fun K "letters_of" "letters_of" sLo (ga K "letters_of") fd3 := Hw.fun_of D3
  have k3 := F3.kp
  have g3 := He.glo_ok X G (cd.fact 2 (f := .glo "letters_of") rfl)
  have b3 := F3.binds (ps := ["rules"]) fun _ _ _ _ _ _ us hl => match us, hl with | [_], _ => rfl
  obtain ⟨fd4, D4⟩ := cd.def_ 3 (d := hd3) rfl
  have F4 : Fun K "outlets_of" "outlets_of" sOo (ga K "outlets_of") fd4 := Hw.fun_of D4
  have k4 := F4.kp
  have g4 := He.glo_ok X G (cd.fact 3 (f := .glo "outlets_of") rfl)
  have b4 := F4.binds (ps := ["rules"]) fun _ _ _ _ _ _ us hl => match us, hl with | [_], _ => rfl
  obtain ⟨fd5, D5⟩ := cd.def_ 4 (d := hd4) rfl
  have F5 : Fun K "weight_in" "weight_in" sWi (ga K "weight_in") fd5 := Hw.fun_of D5
  have k5 := F5.kp
  have g5 := He.glo_ok X G (cd.fact 4 (f := .glo "weight_in") rfl)
  have b5 := F5.binds (ps := ["rule", "letter"]) fun _ _ _ _ _ _ us hl => match us, hl with | [_, _], _ => rfl
  obtain ⟨fd6, D6⟩ := cd.def_ 5 (d := hd5) rfl
  have F6 : Fun K "times_sent" "times_sent" sTs (ga K "times_sent") fd6 := Hw.fun_of D6
  have k6 := F6.kp
  have g6 := He.glo_ok X G (cd.fact 5 (f := .glo "times_sent") rfl)
  have b6 := F6.binds (ps := ["rule", "number"]) fun _ _ _ _ _ _ us hl => match us, hl with | [_, _], _ => rfl
  obtain ⟨fd7, D7⟩ := cd.def_ 6 (d := hd6) rfl
  have F7 : Fun K "sent_at" "sent_at" sSa (ga K "sent_at") fd7 := Hw.fun_of D7
  have k7 := F7.kp
  have g7 := He.glo_ok X G (cd.fact 6 (f := .glo "sent_at") rfl)
  have b7 := F7.binds (ps := ["rules", "numbers"]) fun _ _ _ _ _ _ us hl => match us, hl with | [_, _], _ => rfl
  obtain ⟨fd8, D8⟩ := cd.def_ 7 (d := hd7) rfl
  have F8 : Fun K "sent_by" "sent_by" sSb (ga K "sent_by") fd8 := Hw.fun_of D8
  have k8 := F8.kp
  have g8 := He.glo_ok X G (cd.fact 7 (f := .glo "sent_by") rfl)
  have b8 := F8.binds (ps := ["rules", "counts"]) fun _ _ _ _ _ _ us hl => match us, hl with | [_, _], _ => rfl
  obtain ⟨fd9, D9⟩ := cd.def_ 8 (d := hd8) rfl
  have F9 : Fun K "_law_deal" "_law_deal" sDeal (ga K "_law_deal") fd9 := Hw.fun_of D9
  have k9 := F9.kp
  have g9 := He.glo_ok X G (cd.fact 8 (f := .glo "_law_deal") rfl)
  have b9 := F9.binds (ps := ["_law_script"]) fun _ _ _ _ _ _ us hl => match us, hl with | [_], _ => rfl
  obtain ⟨fd10, D10⟩ := cd.def_ 9 (d := hd9) rfl
  have F10 : Fun K "_law_pick" "_law_pick" sPick (ga K "_law_pick") fd10 := Hw.fun_of D10
  have k10 := F10.kp
  have g10 := He.glo_ok X G (cd.fact 9 (f := .glo "_law_pick") rfl)
  have b10 := F10.binds (ps := ["_law_deal_here", "_law_many"]) fun _ _ _ _ _ _ us hl => match us, hl with | [_, _], _ => rfl
  obtain ⟨fd11, D11⟩ := cd.def_ 10 (d := hd10) rfl
  have F11 : Fun K "_law_of" "_law_of" sOf (ga K "_law_of") fd11 := Hw.fun_of D11
  have k11 := F11.kp
  have g11 := He.glo_ok X G (cd.fact 10 (f := .glo "_law_of") rfl)
  have b11 := F11.binds (ps := ["_law_deal_here", "_law_some"]) fun _ _ _ _ _ _ us hl => match us, hl with | [_, _], _ => rfl
  obtain ⟨fd12, D12⟩ := cd.def_ 11 (d := hd11) rfl
  have F12 : Fun K "_law_like" "_law_like" sLike (ga K "_law_like") fd12 := Hw.fun_of D12
  have k12 := F12.kp
  have g12 := He.glo_ok X G (cd.fact 11 (f := .glo "_law_like") rfl)
  have b12 := F12.binds (ps := ["_law_found", "_law_due"]) fun _ _ _ _ _ _ us hl => match us, hl with | [_, _], _ => rfl
  obtain ⟨fd13, D13⟩ := cd.def_ 12 (d := hd12) rfl
  have F13 : Fun K "_law_names" "_law_names" sNames (ga K "_law_names") fd13 := Hw.fun_of D13
  have k13 := F13.kp
  have g13 := He.glo_ok X G (cd.fact 12 (f := .glo "_law_names") rfl)
  have b13 := F13.binds (ps := ["_law_deal_here", "_law_many"]) fun _ _ _ _ _ _ us hl => match us, hl with | [_, _], _ => rfl
  obtain ⟨fd14, D14⟩ := cd.def_ 13 (d := hd13) rfl
  have F14 : Fun K "_law_times_of" "_law_times_of" sTimes (ga K "_law_times_of") fd14 := Hw.fun_of D14
  have k14 := F14.kp
  have g14 := He.glo_ok X G (cd.fact 13 (f := .glo "_law_times_of") rfl)
  have b14 := F14.binds (ps := ["_law_rule", "_law_come"]) fun _ _ _ _ _ _ us hl => match us, hl with | [_, _], _ => rfl
  obtain ⟨fd15, D15⟩ := cd.def_ 14 (d := hd14) rfl
  have F15 : Fun K "_law_weight" "_law_weight" sWeight (ga K "_law_weight") fd15 := Hw.fun_of D15
  have k15 := F15.kp
  have g15 := He.glo_ok X G (cd.fact 14 (f := .glo "_law_weight") rfl)
  have b15 := F15.binds (ps := ["_law_rule", "_law_name"]) fun _ _ _ _ _ _ us hl => match us, hl with | [_, _], _ => rfl
  obtain ⟨fd16, D16⟩ := cd.def_ 15 (d := hd15) rfl
  have F16 : Fun K "_law_why" "_law_why" Hw.sWhy (ga K "_law_why") fd16 := Hw.fun_of D16
  have k16 := F16.kp
  have g16 := He.glo_ok X G (cd.fact 15 (f := .glo "_law_why") rfl)
  have b16 := F16.binds (ps := ["_law_ask"]) fun _ _ _ _ _ _ us hl => match us, hl with | [_], _ => rfl
  obtain ⟨fd17, D17⟩ := cd.def_ 16 (d := hd16) rfl
  have F17 : Fun K "_law_full_rule" "_law_full_rule" sFr (ga K "_law_full_rule") fd17 := Hw.fun_of D17
  have k17 := F17.kp
  have g17 := He.glo_ok X G (cd.fact 16 (f := .glo "_law_full_rule") rfl)
  have b17 := F17.binds (ps := ["_law_deal_here", "_law_ins", "_law_outs"]) fun _ _ _ _ _ _ us hl => match us, hl with | [_, _, _], _ => rfl
  obtain ⟨fd18, D18⟩ := cd.def_ 17 (d := hd17) rfl
  have F18 : Fun K "_law_any_rules" "_law_any_rules" sAr (ga K "_law_any_rules") fd18 := Hw.fun_of D18
  have k18 := F18.kp
  have g18 := He.glo_ok X G (cd.fact 17 (f := .glo "_law_any_rules") rfl)
  have b18 := F18.binds (ps := ["_law_deal_here"]) fun _ _ _ _ _ _ us hl => match us, hl with | [_], _ => rfl
  obtain ⟨fd19, D19⟩ := cd.def_ 18 (d := hd18) rfl
  have F19 : Fun K "_law_names_of" "_law_names_of" sNo (ga K "_law_names_of") fd19 := Hw.fun_of D19
  have k19 := F19.kp
  have g19 := He.glo_ok X G (cd.fact 18 (f := .glo "_law_names_of") rfl)
  have b19 := F19.binds (ps := ["_law_given_rules", "_law_place"]) fun _ _ _ _ _ _ us hl => match us, hl with | [_, _], _ => rfl
  obtain ⟨fd20, D20⟩ := cd.def_ 19 (d := hd19) rfl
  have F20 : Fun K "_law_sent_of" "_law_sent_of" sSo (ga K "_law_sent_of") fd20 := Hw.fun_of D20
  have k20 := F20.kp
  have g20 := He.glo_ok X G (cd.fact 19 (f := .glo "_law_sent_of") rfl)
  have b20 := F20.binds (ps := ["_law_given_rules", "_law_amounts"]) fun _ _ _ _ _ _ us hl => match us, hl with | [_, _], _ => rfl
  obtain ⟨fd21, D21⟩ := cd.def_ 20 (d := hd20) rfl
  have F21 : Fun K "law" "law" sLaw (ga K "law") fd21 := Hw.fun_of D21
  have k21 := F21.kp
  have g21 := He.glo_ok X G (cd.fact 20 (f := .glo "law") rfl)
  have z_isinstance := He.free_ok X G (cd.fact 21 (f := .free "isinstance") rfl)
  have z_list := He.free_ok X G (cd.fact 22 (f := .free "list") rfl)
  have z_tuple := He.free_ok X G (cd.fact 23 (f := .free "tuple") rfl)
  have z_len := He.free_ok X G (cd.fact 24 (f := .free "len") rfl)
  have z_all := He.free_ok X G (cd.fact 25 (f := .free "all") rfl)
  have z_range := He.free_ok X G (cd.fact 26 (f := .free "range") rfl)
  have z_bool := He.free_ok X G (cd.fact 27 (f := .free "bool") rfl)
  have z_int := He.free_ok X G (cd.fact 28 (f := .free "int") rfl)
  have z_str := He.free_ok X G (cd.fact 29 (f := .free "str") rfl)
  have z_abs := He.free_ok X G (cd.fact 30 (f := .free "abs") rfl)
  have z_min := He.free_ok X G (cd.fact 31 (f := .free "min") rfl)
  have z_max := He.free_ok X G (cd.fact 32 (f := .free "max") rfl)
  have z_sum := He.free_ok X G (cd.fact 33 (f := .free "sum") rfl)
  have z_zip := He.free_ok X G (cd.fact 34 (f := .free "zip") rfl)
  have z_sorted := He.free_ok X G (cd.fact 35 (f := .free "sorted") rfl)
  have z_any := He.free_ok X G (cd.fact 36 (f := .free "any") rfl)
  have z_dict := He.free_ok X G (cd.fact 37 (f := .free "dict") rfl)
  have nB : KBn K fd8 ["rules", "counts"] 0 ["counts", "rules"] kSw kSw := by
    obtain ⟨oc, od, kV, doc, pm, an, cdv, ct, osl, rfl, lk, hcd⟩ := F8.ex
    refine ⟨fun s us ws Y l1 l2 => ?_, kSw_rel⟩
    match us, ws, l1, l2 with
    | [], [w0, w1], _, _ => exact .of_eq rfl
  have er : Hw.Errs mg ⟨Hw.cls1.map (ga K), Hw.cls2.map (ga K), Hw.cls3.map (ga K), ga K "Heeds", ga K "NoneWaits", ga K "HeedError", ga K "Lacking"⟩ := ⟨(.cons (He.glo_ok X G (cd.fact 38 (f := .glo "BadName") rfl)) (.cons (He.glo_ok X G (cd.fact 39 (f := .glo "Taken") rfl)) (.cons (He.glo_ok X G (cd.fact 40 (f := .glo "NoLetter") rfl)) (.cons (He.glo_ok X G (cd.fact 41 (f := .glo "NoOutlet") rfl)) (.cons (He.glo_ok X G (cd.fact 42 (f := .glo "NoMachine") rfl)) (.cons (He.glo_ok X G (cd.fact 43 (f := .glo "NoWeb") rfl)) (.cons (He.glo_ok X G (cd.fact 44 (f := .glo "NoRun") rfl)) .nil))))))), (.cons (He.glo_ok X G (cd.fact 45 (f := .glo "BadRow") rfl)) (.cons (He.glo_ok X G (cd.fact 46 (f := .glo "BadText") rfl)) (.cons (He.glo_ok X G (cd.fact 47 (f := .glo "BadDeed") rfl)) .nil))), (.cons (He.glo_ok X G (cd.fact 48 (f := .glo "Unreached") rfl)) (.cons (He.glo_ok X G (cd.fact 49 (f := .glo "Gone") rfl)) (.cons (He.glo_ok X G (cd.fact 50 (f := .glo "NoStand") rfl)) .nil))), He.glo_ok X G (cd.fact 51 (f := .glo "Heeds") rfl), He.glo_ok X G (cd.fact 52 (f := .glo "NoneWaits") rfl), He.glo_ok X G (cd.fact 53 (f := .glo "HeedError") rfl), He.glo_ok X G (cd.fact 54 (f := .glo "Lacking") rfl)⟩
  have z_ValueError := He.free_ok X G (cd.fact 55 (f := .free "ValueError") rfl)
  have UEV := Hw.upB_ok x1
  have gUV := He.glo_ok X G (cd.fact 53 (f := .glo "HeedError") rfl)
  obtain ⟨fdUV, FUV⟩ := cd.def_ 21 (d := hd21) rfl
  obtain ⟨ds0V, rv0V, bd0V⟩ := FunD.binds1 (ps := ["self", "word", "about"]) FUV 2 1 (by intro z; cases z) rfl (fun T kV doc pm an cdv ct us its hu hi => match us, its, hu, hi with | [_, _], [_, _], _, _ => ⟨_, rfl, rfl⟩)
  obtain ⟨ds1V, rv1V, bd1V⟩ := FunD.binds1 (ps := ["self", "word", "about"]) FUV 3 2 (by intro z; cases z) rfl (fun T kV doc pm an cdv ct us its hu hi => match us, its, hu, hi with | [_, _, _], [_, _], _, _ => ⟨_, rfl, rfl⟩)
  have OE_BadCounts := Hw.oneB_ok x2
  have gE_BadCounts := He.glo_ok X G (cd.fact 56 (f := .glo "BadCounts") rfl)
  obtain ⟨fdE_BadCounts, DE_BadCounts⟩ := cd.def_ 22 (d := hd22) rfl
  have FE_BadCounts : Fun K "__init__" "BadCounts.__init__" Hw.sEBadCounts (ma K (ga K "BadCounts") "__init__") fdE_BadCounts := Hw.fun_of DE_BadCounts
  have bE_BadCounts := FE_BadCounts.binds (ps := ["self"]) fun _ _ _ _ _ _ us hl => match us, hl with | [_], _ => rfl
  have XF_BadCounts := OE_BadCounts.xf
  have n_word_BadCounts := OE_BadCounts.nf "word" (by simp)
  have w1_BadCounts := Hw.exmB_ok x3
  have w2_BadCounts := Hw.exmB_ok x4
  have w3_BadCounts := Hw.exmB_ok x5
  have w4_BadCounts := Hw.exmB_ok x6
  have w5_BadCounts := Hw.exmB_ok x7
  have w6_BadCounts := Hw.exmB_ok x8
  have B : Bi mg := ⟨z_isinstance, z_list, z_tuple, z_len, z_all, z_range, z_bool, z_int, z_str, z_abs⟩
  have J : Bj mg := ⟨z_min, z_max, z_sum, z_zip, z_sorted⟩
  have Dd : Bd mg := ⟨z_dict⟩
  have e := hfa'.symm.trans g21
  cases e
  obtain ⟨cL, PL, ocL, odL, kVL, docL, pmL, anL, ctL, oslL, lkL, hcL, hdL, emL, noL⟩ := Hw.law_tab X c F21 (List.mem_singleton.mpr rfl)
  refine ⟨PySem.W.fnOf "law" "law" (defArgs sLaw) (defBody sLaw) (defScope sLaw) .none kVL docL pmL anL (.ref cL) ctL, [(cL, PL)], spLaw K PL, fun p hp => by cases List.mem_singleton.mp hp; exact emL, fun p hp => by cases List.mem_singleton.mp hp; exact noL, fun p hp => by cases List.mem_singleton.mp hp; exact hdL, fun s v => .of_eq rfl,
    fun H a ns hl _ hT hS => ⟨a, ns, rfl, hS, hl, hT _ (List.mem_singleton.mpr rfl), fun _ => rfl⟩, fun base _ _ hTB => ?_⟩
  have TB := hTB (cL, PL) (List.mem_singleton.mpr rfl)
  exact ok_law (k := 10) (n := 7) lkL hcL TB B J ⟨ok_deal (k := 11) F9 B.lst, k9, b9, g9⟩
    ⟨ok_ar (k := 11) F18 (ok_pick (k := 10) F10 B.len) k10 b10 g10 (ok_of (k := 9) F11 F10 b10 g10 B) k11 b11 g11 (ok_names (k := 10) F13 (ok_pick (k := 9) F10 B.len) k10 b10 g10 (ok_of (k := 8) F11 F10 b10 g10 B) k11 b11 g11 B) k13 b13 g13 (ok_fr (k := 10) F17 (ok_pick (k := 9) F10 B.len) k10 b10 g10 (ok_of (k := 8) F11 F10 b10 g10 B) k11 b11 g11 B J) k17 b17 g17 B, k18, b18, g18⟩
    ⟨ok_like F12 b12 g12 B 11, k12, b12, g12⟩
    ⟨ok_pick (k := 11) F10 B.len, k10, b10, g10⟩
    ⟨ok_of (k := 10) F11 F10 b10 g10 B, k11, b11, g11⟩
    ⟨ok_no (k := 11) F19 B J, k19, b19, g19⟩
    ⟨ok_so (k := 11) F20 B J ⟨ok_no (k := 10) F19 B J, k19, b19, g19⟩ ⟨ok_weight (k := 10) F15 J, k15, b15, g15⟩ ⟨ok_times (k := 10) F14 J, k14, b14, g14⟩, k20, b20, g20⟩
    F16 g16 er (ok_sb (k := 11) F8 B J ⟨ok_lo (k := 10) F3 J, k3, b3, g3⟩ (ok_rcX (k := 9) F2 B z_any ⟨OE_BadCounts.own, gE_BadCounts, OE_BadCounts.iC, OE_BadCounts.tI, Hw.ok_eBadCounts (k := 7) FE_BadCounts (Hw.ok_upV (k := 7) FUV z_ValueError UEV.b) FUV.kp bd0V rv0V UEV.r UEV.c gUV, bE_BadCounts, OE_BadCounts.nf⟩) k2 b2 g2 ⟨ok_sa (k := 10) F7 J Dd ⟨ok_oo (k := 9) F4 J, k4, b4, g4⟩ ⟨ok_ts (k := 9) F6 J, k6, b6, g6⟩ ⟨ok_add (k := 9) F1 J, k1, b1, g1⟩, k7, b7, g7⟩ ⟨ok_wi (k := 10) F5 Dd, k5, b5, g5⟩) (ok_sb (k := 9) F8 B J ⟨ok_lo (k := 8) F3 J, k3, b3, g3⟩ (ok_rcX (k := 7) F2 B z_any ⟨OE_BadCounts.own, gE_BadCounts, OE_BadCounts.iC, OE_BadCounts.tI, Hw.ok_eBadCounts (k := 5) FE_BadCounts (Hw.ok_upV (k := 5) FUV z_ValueError UEV.b) FUV.kp bd0V rv0V UEV.r UEV.c gUV, bE_BadCounts, OE_BadCounts.nf⟩) k2 b2 g2 ⟨ok_sa (k := 8) F7 J Dd ⟨ok_oo (k := 7) F4 J, k4, b4, g4⟩ ⟨ok_ts (k := 7) F6 J, k6, b6, g6⟩ ⟨ok_add (k := 7) F1 J, k1, b1, g1⟩, k7, b7, g7⟩ ⟨ok_wi (k := 8) F5 Dd, k5, b5, g5⟩) k8 b8 g8 nB XF_BadCounts w1_BadCounts w2_BadCounts w3_BadCounts w4_BadCounts w5_BadCounts w6_BadCounts n_word_BadCounts
end Hl

set_option Elab.async false
set_option linter.all false
set_option maxRecDepth 100000
open PySem PySem.W PySem.Calls PyProof.Rows
set_option maxHeartbeats 0 in
theorem PySem.Challenge.cw_heedless_k18_sent_by_rules_holds : PySem.Challenge.rw_heedless_k18_sent_by_rules.Holds := by
  w_on; o_law
  refine HandSHeadRun.head_any (r := OpenLaw.row PySem.Challenge.rw_heedless_k18_sent_by_rules) (q := view (OpenLaw.row PySem.Challenge.rw_heedless_k18_sent_by_rules).prog [42]) (H := Hl.hk) (ob := Hl.hob) (M := 20000) (loose := Hl.hloose) (d := HandSHeadRun.topDef (OpenLaw.row PySem.Challenge.rw_heedless_k18_sent_by_rules).prog 42) (kwd := []) Hl.hob_eq
    (by kernel_rfl) (fun s => by kernel_rfl) Hl.hrun (by kernel_rfl) (by kernel_rfl) (by kernel_rfl) (by rfl) (by first | assumption | decide +kernel) (by decide +kernel) ⟨rfl, rfl, rfl, rfl, rfl, by decide +kernel⟩ ?hw ?hc
  case hw => w_witness2
  case hc =>
    refine LamX.walk_ofTsE (l := PySem.Challenge.rw_heedless_k18_sent_by_rules) (n := 63) (k := 13) (x := "_law_script") (CX := fun _ => L2.CX0) rfl (by decide) (by kernel_rfl) ⟨rfl, by decide, by decide⟩ ?F (fun _ _ _ _ _ z => z)
    intro w mg fa h Y G hmg0
    obtain ⟨K, KX, c⟩ := Y
    have hmg : mg ("law" : PySem.Str) = some (.ref fa) := by
      have e : (HandSHeadRun.topDef (OpenLaw.row PySem.Challenge.rw_heedless_k18_sent_by_rules).prog 42).name = ("law" : PySem.Str) := by kernel_rfl
      rw [← e]
      exact hmg0
    exact ⟨K, KX, Hl.all_x KX G hmg c⟩

