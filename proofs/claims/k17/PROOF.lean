import PyProof.Rows.All
import Wide.All
import OpenK.AllK
import Wide.FinOn
import HandS.Wide
import HandS.Exc
import HandS.ExcOwn
import HandS.TryMany
import HandS.ExcField
import HandS.ExcIs
import HandS.Lambda
import HandS.More
import HandS.Words
import HandS.ExcInit
import HandS.ClsMeth
import KE.KExcInit
import HandS.FStr
import HandS.EndTab
import KE.KNest
import HandS.Head2
import HandS.HeadHook4
import HandS.HeadWalk
import HandS.Defaults
import HandS.Set
import HandS.SetBool
import HandS.SetTxt0
import HandS.Comp
import HandS.Dict
import KE.KDictPairs
import PyProof.Rows.StrReprJoin
import HandS.Deep
import HandS.Conv
import PyProof.Rows.ListStrD
import PySem.Challenge.RW_heedless_k17_texts_of_no_rules
import HandS.ForMost
import HandS.EndBits
import HandS.IsInst
import HandS.Evl
import HandS.Style
import HandS.Zip
import HandS.MakeKw
import KE.GoesMore
import KE.GoesZip
import HandS.WordsExc
set_option Elab.async false
set_option linter.all false
set_option maxRecDepth 100000
set_option maxHeartbeats 4000000
namespace Hw
open PySem PySem.Spec PyProof.Rows L2
/-! a tuple of classes, any number of them -/
section
variable {M : Model} {A : Around} {E : Value → Shared → Prop} {s : Shared}
theorem each_passes {f : Value → PUnit → Sem (ForInStep PUnit)} : ∀ {cs : List Value} {Q : PUnit → Shared → Prop}, (∀ c ∈ cs, ∀ R : ForInStep PUnit → Shared → Prop, R (.yield ⟨⟩) s → wpAny M A (f c ⟨⟩) R E s) → Q ⟨⟩ s → wpAny M A (forIn cs PUnit.unit f) Q E s
  | [], Q, _, q => by
    rw [List.forIn_nil]
    exact wpAny_pure q
  | c :: cs, Q, h, q => by
    rw [List.forIn_cons]
    exact wpAny_bind (h c List.mem_cons_self _ (each_passes (fun d hd => h d (List.mem_cons_of_mem _ hd)) q))
theorem one_found {f : Value → Option Bool × Unit → Sem (ForInStep (Option Bool × Unit))} : ∀ {cs : List Value} {bs : List Bool} {Q : Option Bool × Unit → Shared → Prop},
    Paired (fun c b => ∀ (r : Option Bool × Unit) (R : ForInStep (Option Bool × Unit) → Shared → Prop), R (if b = true then .done (some true, ()) else .yield (none, ())) s → wpAny M A (f c r) R E s) cs bs →
    Q (if bs.any id = true then some true else none, ()) s → wpAny M A (forIn cs (none, ()) f) Q E s
  | _, _, Q, .nil, q => by
    rw [List.forIn_nil]
    exact wpAny_pure q
  | _, _, Q, .cons (b := b) h r, q => by
    rw [List.forIn_cons]
    refine wpAny_bind (h _ _ ?_)
    cases b with
    | true => exact wpAny_pure q
    | false => exact one_found r q
end
theorem exmAny_all {K : PySem.W.Frag} {cls : Value} : ∀ {cs : List Value} {b : Bool}, PySem.W.exmAny K cls cs = some b → ∃ bs : List Bool, Paired (fun c b => PySem.W.exmOne K cls c = some b) cs bs ∧ b = bs.any id
  | [], b, h => ⟨[], .nil, (Option.some.inj h).symm⟩
  | c :: cs, b, h => by
    obtain ⟨b1, d1, h1, h2, rfl⟩ := PySem.W.exmAny_cons h
    obtain ⟨bs, p, rfl⟩ := exmAny_all h2
    exact ⟨b1 :: bs, .cons h1 p, rfl⟩
theorem paired_imp {α β : Type} {R S : α → β → Prop} (h : ∀ x y, R x y → S x y) : ∀ {xs : List α} {ys : List β}, Paired R xs ys → Paired S xs ys
  | _, _, .nil => .nil
  | _, _, .cons a b => .cons (h _ _ a) (paired_imp h b)
theorem paired_left {α β : Type} {R : α → β → Prop} {S : α → Prop} (h : ∀ x y, R x y → S x) : ∀ {xs : List α} {ys : List β}, Paired R xs ys → ∀ x ∈ xs, S x
  | _, _, .nil, _, hx => by cases hx
  | _, _, .cons a b, x, hx => by
    rcases List.mem_cons.mp hx with e | e
    · subst e
      exact h _ _ a
    · exact paired_left h b x e
theorem exm_tup {M : Model} {K : PySem.W.Frag} {cs : List Value} {cls : Value} {tp e : Addr} {b : Bool} {h : Heap} (X : K.In h) (LT : PySem.W.Looks M h (typeOf (.ref e)) cls) (hp : h.get? tp = some { cls := .type "tuple", data := .seq cs.toArray }) (hx : PySem.W.exmAny K cls cs = some b) :
    PySem.W.Looks M h (excMatches (.ref e) (.ref tp)) b := by
  intro A Q E s k q
  have tu : PySem.W.Looks M h (isInstance (.ref tp) (.type "tuple")) true := ((PySem.W.Looks.ld hp).andThen .now).andThen (PySem.W.Looks.of_pure isSubtype_tuple_tuple)
  obtain ⟨bs, p, rfl⟩ := exmAny_all hx
  unfold excMatches
  refine wpAny_bind ((tu.keeps k).here ?_)
  dsimp only
  rw [if_pos rfl]
  first
    | refine wpAny_bind (wpAny_seqItems (k _ _ hp) rfl ?_)
    | refine wpAny_bind (wpAny_bind (wpAny_seqItems (k _ _ hp) rfl (wpAny_pure ?_)))
  dsimp only [Option.getD_some, Option.getD]
  refine wpAny_bind (wpAny_pure ?_)
  refine wpAny_bind (each_passes (paired_left (S := fun c => ∀ R : ForInStep PUnit → Shared → Prop, R (.yield ⟨⟩) s → wpAny M A (do
      let __do_lift ← isExcClass c
      if (!__do_lift) = true then do
          rule "try.except-non-exception-class"
          raiseErrorWords "TypeError" "catching classes that do not inherit from BaseException is not allowed"
          pure (ForInStep.yield PUnit.unit)
        else pure (ForInStep.yield PUnit.unit)) R E s) (fun c b hc R r => ?_) p) ?_)
  · refine wpAny_bind (((PySem.W.exm_cls (M := M) X hc).1.keeps k).here ?_)
    rw [if_neg (by decide)]
    exact wpAny_pure r
  refine wpAny_bind ((LT.keeps k).here ?_)
  refine wpAny_bind (one_found (paired_imp (fun c b hc r R q' => ?_) p) ?_)
  · refine wpAny_bind (((PySem.W.exm_cls (M := M) X hc).2.keeps k).here ?_)
    cases b with
    | true => exact wpAny_pure q'
    | false => exact wpAny_pure q'
  cases hb : bs.any id with
  | true =>
    rw [hb] at q
    exact wpAny_pure q
  | false =>
    rw [hb] at q
    exact wpAny_pure q
end Hw

set_option Elab.async false
set_option linter.all false
set_option maxRecDepth 100000
set_option maxHeartbeats 4000000
namespace Hw
open PySem PySem.Spec PyProof.Rows L2
abbrev St := L2.St
/-! a clause's test: a name, or several names in a tuple -/
inductive NmsL (X : Cx) : List Expr → List Value → Prop
  | nil : NmsL X [] []
  | cons {x : Str} {p : Pos} {c : Value} {es : List Expr} {cs : List Value} : Names X x c → NmsL X es cs → NmsL X (.Name x p :: es) (c :: cs)
inductive Tst (X : Cx) : Expr → List Value → Prop
  | one {x : Str} {p : Pos} {c : Value} : Names X x c → Tst X (.Name x p) [c]
  | many {es : List Expr} {k : Nat} {pos : Pos} {cs : List Value} : NmsL X es cs → cs.length ≤ 1000 → Tst X (.Tuple es k pos) cs
section
variable {X : Cx} {a : Addr} {pn pins : List (Addr × Obj)} {σ : St} {H : Hp} {s : Shared}
theorem name_run {x : Str} {p : Pos} {c : Value} {Q E : Value → Shared → Prop} (S : Inv (X.suite a pn) pins σ H s) (n : Names X x c) (q : Q c s) : wpAny (model X.prog X.w) (X.A.mark (some (.ref a))) (eval (.Name x p) X.env) Q E s := by
  obtain ⟨g, d, m | ⟨m, v, nn⟩⟩ := n
  · exact ld_glob (X := X.suite a pn) S g m q d
  · exact ld_blt (X := X.suite a pn) S g m v q nn d
theorem names_run {E : Value → Shared → Prop} {pos : Pos} (S : Inv (X.suite a pn) pins σ H s) : ∀ {es : List Expr} {cs : List Value} {Q : List Value → Shared → Prop}, NmsL X es cs → Q cs s → wpAny (model X.prog X.w) (X.A.mark (some (.ref a))) (spliced (backTo pos (starEach es X.env))) Q E s
  | _, _, Q, .nil, q => wpAny_items_nil q
  | _, _, Q, .cons n r, q => wpAny_items_cons (name_run S n (names_run S r q))
theorem tst_run {t : Expr} {cs : List Value} {cls : Value} {b : Bool} {Q : Bool → Shared → Prop} {E E' : Value → Shared → Prop} (S : Inv (X.suite a pn) pins σ H s) (ts : Tst X t cs) (LT : PySem.W.Looks (model X.prog X.w) s.heap (typeOf (.ref a)) cls) (hx : PySem.W.exmAny X.K cls cs = some b)
    (q : ∀ h', (∀ b o, s.heap.get? b = some o → h'.get? b = some o) → Q b { s with heap := h' }) :
    wpAny (model X.prog X.w) (X.A.mark (some (.ref a))) (eval t X.env) (fun c s₁ => wpAny (model X.prog X.w) (X.A.mark (some (.ref a))) (excMatches (.ref a) c) Q E s₁) E' s := by
  cases ts with
  | one n =>
    obtain ⟨b1, d1, h1, h2, rfl⟩ := PySem.W.exmAny_cons hx
    cases (Option.some.inj h2 : false = d1)
    refine name_run S n ((PySem.W.exm_one (M := model X.prog X.w) S.kIn LT h1).here ?_)
    have := q s.heap fun _ _ e => e
    rw [Bool.or_false] at this
    exact this
  | many n small =>
    refine wpAny_Tuple (names_run S n ⟨Nat.le_of_lt (small1000 small), ?_⟩)
    have kp : ∀ b o, s.heap.get? b = some o → (s.heap.push { cls := .type "tuple", data := .seq cs.toArray }).get? b = some o := fun _ _ e => Heap.get?_push_of_some _ e
    exact (exm_tup (M := model X.prog X.w) (S.kIn.keeps kp) (LT.keeps kp) (Heap.get?_push_size s.heap rfl) hx).here (q _ kp)
end
theorem flying_on {B h h' : Heap} {l : List Env} {e : Addr} {Z : Obj → Prop} (f : HandSPX.FlyingZ B l e Z h) (k : ∀ b o, h.get? b = some o → h'.get? b = some o) : HandSPX.FlyingZ B l e Z h' := by
  obtain ⟨f1, f2, f3, oe, vs, T, oT, ts, he, hz, hd, h1, h2, h3, hT, hdT, hf⟩ := f
  exact ⟨fun b o q => k b o (f1 b o q), f2, f3.of_keeps fun b o q _ => ⟨o, k b o q, rfl⟩, oe, vs, T, oT, ts, k _ _ he, hz, hd, h1, h2, h3, k _ _ hT, hdT, hf⟩
/-! try: body / except (A, B) as n: .. / except C as n: .. -/
abbrev Suit := Addr → Value → Option Addr → TS
/-- the ends of a suite: the name goes -/
def outN (i : Nat) (D : Ends) : Ends := { nx := fun σ' H' => D.nx (σ'.set i none) H', rt := D.rt, bk := fun σ' H' => D.bk (σ'.set i none) H', ct := fun σ' H' => D.ct (σ'.set i none) H' }
def wWhy (K : PySem.W.Frag) (i : Nat) (Wout : WX) (D : Ends) : List (List Value × Suit) → WX
  | [] => Wout
  | (cs, ts) :: r => fun cls d σ H => ∃ b, PySem.W.exmAny K cls cs = some b ∧ (b = true → ∀ a, H a = none → ts a cls d (outN i D) (σ.set i (some (.ref a))) H) ∧ (b = false → wWhy K i Wout D r cls d σ H)
inductive HdsW (X : Cx) (n : Str) : List ExceptHandler → List (List Value × Suit) → Prop
  | nil : HdsW X n [] []
  | cons {t : Expr} {cs : List Value} {ts : Suit} {b₀ : Stmt} {suite : List Stmt} {pos' : Pos} {hds : List ExceptHandler} {l : List (List Value × Suit)} (ht : Tst X t cs)
      (hsu : ∀ (a : Addr) (oe : Obj) (cls : Value) (d : Option Addr) (pn : List (Addr × Obj)), Zc cls d oe → (∃ vs, oe.data = .fields vs) → PSs (X.suite a ((a, oe) :: pn)) (b₀ :: suite) (ts a cls d)) (r : HdsW X n hds l) :
      HdsW X n (.ExceptHandler (some t) (some n) (b₀ :: suite) pos' :: hds) ((cs, ts) :: l)
section
variable {X : Cx} {n : Str} {i : Nat} {body : List Stmt} {h₀ : ExceptHandler} {hds : List ExceptHandler} {l : List (List Value × Suit)} {pos : Pos} {tb : WX → TS} {Wout : WX}
/-- the clauses, one after another, the exception a having landed -/
theorem clauses (hs : X.stack = X.env :: X.outer) (hf : X.env.frame = some X.env.locals) (hN : X.N.Nodup) (hi : X.N[i]? = some n) (hln : X.env.kindOf n = some .local) (tk : Takes X Wout) (ok : X.Ok) {pins : List (Addr × Obj)} {σ : St} {H : Hp} {D : Ends} {a : Addr} {cls : Value} {d : Option Addr} {B : Heap} {sI s' : Shared}
    (J : Inv X pins σ H sI) (nb : ∀ b o, sI.heap.get? b = some o → b ∉ frs X.stack → B.get? b = some o) (na : H a = none) (os : s'.os = sI.os) (ag : AllBare s'.gens) :
    ∀ {hds : List ExceptHandler} {l : List (List Value × Suit)}, HdsW X n hds l → wWhy X.K i Wout D l cls d σ H → ∀ h : Heap, HandSPX.FlyingZ B (X.env :: X.outer) a (Zc cls d) h → sI.heap.UpToSlots h →
      wpAny (model X.prog X.w) X.A (handleBy (.ref a) X.env hds) (SP X pins D) X.xe { s' with heap := h } := by
  have apart : ∀ {h : Heap}, HandSPX.FlyingZ B (X.env :: X.outer) a (Zc cls d) h → a ≠ X.env.locals ∧ a ∉ X.fs := fun {h} fl => by
    obtain ⟨oe, vs, he, _, hd⟩ := fl.there
    have no : a ∉ frs (X.env :: X.outer) := fun hm => by
      obtain ⟨_, o', e', hnf⟩ := fl.2.2.1.mem hm
      rw [he] at e'
      cases e'
      exact hnf _ hd
    refine ⟨fun z => no (List.mem_filterMap.mpr ⟨X.env, List.mem_cons_self, by rw [hf, z]⟩), fun hm => ?_⟩
    obtain ⟨e, he', q⟩ := List.mem_filterMap.mp hm
    exact no (List.mem_filterMap.mpr ⟨e, List.mem_cons_of_mem _ he', q⟩)
  intro hds l hk
  induction hk with
  | nil =>
    intro w h fl up
    refine wpAny_handleBy_nil ?_
    obtain ⟨k1, k2, k3, oe, vs, T, oT, ts', he, hz, hd, h1, hr⟩ := id fl
    unfold PySem.passOn
    refine wpAny_bind (wpAny_field he hd h1 ?_)
    rw [if_neg (show ¬ ((Value.ref T == Value.none) = true) from by simp)]
    have fin : wpAny (model X.prog X.w) X.A (setFlight (.ref a) X.env.frame) (fun _ s4 => wpAny (model X.prog X.w) X.A (throw (.ref a) : Sem Flow) (SP X pins D) X.xe s4) X.xe { s' with heap := h } := by
      rw [hf]
      refine HandSPX.setFlight_upZ fl fun h4 hh4 up4 => wpAny_throw (tk _ _ ?_)
      exact ⟨a, B, sI, pins, σ, H, cls, d, rfl, J, nb, up.trans up4, .inr (.inr (by rw [hs]; exact hh4)), na, os, ag, w⟩
    first
      | exact wpAny_bind (wpAny_pure (wpAny_bind fin))
      | exact wpAny_bind fin
  | @cons t cs ts b₀ suite pos' hds2 l2 ht hsu r ih =>
    intro w h fl up
    obtain ⟨b, hb1, hyes, hno⟩ := w
    obtain ⟨nL, nF⟩ := apart fl
    have J3 : Inv X pins σ H { s' with heap := h } := J.landed nb fl.1 up os ag
    obtain ⟨oe3, vs3, he3, hz3, hd3⟩ := fl.there
    have S3 := J3.suite he3 hd3 na nL nF
    have LT : PySem.W.Looks (model X.prog X.w) h (typeOf (.ref a)) cls := fun A Q E s k q => wpAny_typeOf_ref (k _ _ he3) (by rw [hz3.1]; exact q)
    refine wpAny_handleBy_cons (codeAny_handlers_test (tst_run S3 ht LT hb1 fun h2 k2 => ?_)) (by intro q; cases q)
    have fl2 := flying_on fl k2
    have up2 := up.trans (Heap.UpToSlots.of_keeps k2)
    cases b with
    | false => exact ih (hno rfl) h2 fl2 up2
    | true =>
      refine codeAny_handlers_suite_as ?_
      refine HandSPX.lands_againZ fl2 fun h4 fl4 up4 => ?_
      have J4 : Inv X pins σ H { s' with heap := h4 } := J.landed nb fl4.1 (up2.trans up4) os ag
      obtain ⟨oe4, vs4, he4, hz4, hd4⟩ := fl4.there
      have S4 := J4.suite he4 hd4 na nL nF
      refine store_ok (X := X.suite a ((a, oe4) :: (X.pn ++ pins))) (v := .ref a) S4 hN hi (.inl hln) rfl (fun s5 S5 => ?_) (.inr hln)
      refine wpAny_mono ((hsu a oe4 cls d (X.pn ++ pins) hz4 ⟨_, hd4⟩).run [] s5 _ H _ S5 (hyes rfl a na)) (fun f s6 got => ?_) (fun _ _ z => False.elim z)
      have gone : ∀ {σ6 : St} {H6 : Hp} {Q : Shared → Prop}, Inv (X.suite a ((a, oe4) :: (X.pn ++ pins))) [] σ6 H6 s6 → (∀ s7, Inv X pins (σ6.set i none) H6 s7 → Q s7) →
          wpAny (model X.prog X.w) X.A (do bindName X.env n .none; unbindBehindTheSuite X.env n pos') (fun _ s7 => Q s7) X.xe s6 := fun {σ6 H6 Q} S6 hq => gone_ok (S6.unsuite ok) hN hi hln hq
      match f, got with
      | .next, ⟨σ6, H6, S6, q6⟩ => exact gone S6 fun s7 J7 => ⟨_, _, J7, q6⟩
      | .brk, ⟨σ6, H6, S6, q6⟩ => exact gone S6 fun s7 J7 => ⟨_, _, J7, q6⟩
      | .cont, ⟨σ6, H6, S6, q6⟩ => exact gone S6 fun s7 J7 => ⟨_, _, J7, q6⟩
      | .ret u, ⟨v6, σ6, H6, S6, r6, q6⟩ => exact gone S6 fun s7 J7 => ⟨_, _, _, J7, r6, q6⟩
theorem ps_try_why (hs : X.stack = X.env :: X.outer) (hf : X.env.frame = some X.env.locals) (hN : X.N.Nodup) (hi : X.N[i]? = some n) (hln : X.env.kindOf n = some .local) (tk : Takes X Wout)
    (hb : ∀ (W : WX) (pn : List (Addr × Obj)) (xe : Value → Shared → Prop), Takes (X.tr pn xe) W → PassesOwn (model X.prog X.w) X.A X.env xe → PSs (X.tr pn xe) body (tb W))
    (hh : HdsW X n (h₀ :: hds) l) : PS X (.Try body (h₀ :: hds) [] [] pos) (fun D σ H => tb (wWhy X.K i Wout D l) D σ H) := by
  refine ⟨fun pins s σ H D I h => ?_⟩
  have ok := I.ok
  have hfr : X.A.frames = some (X.env :: X.outer) := by rw [ok.frames, hs]
  refine wpAny_Try_except (wpAny_mono ((hb (wWhy X.K i Wout D l) (X.pn ++ pins) (fun e s₁ => wpAny (model X.prog X.w) X.A (noteFrame e X.env) (fun _ s₂ => wpAny (model X.prog X.w) X.A (setFlight e none) (fun _ s₃ =>
    wpAny (model X.prog X.w) X.A (handleBy e X.env (h₀ :: hds)) (SP X pins D) X.xe s₃) X.xe s₂) X.xe s₁) (fun u s' out => ?_) PassesOwn.looking).run [] s σ H D (I.toTry _) h) (fun f s1 got => ?_) (fun e s1 he => he))
  · obtain ⟨a, B, sI, pins', σ', H', cls, d, rfl, J', nb, up, sky, na, os, ag, w⟩ := out
    show wpAny (model X.prog X.w) X.A (noteFrame (.ref a) X.env) _ _ _
    refine Sky.land Zc.steady hfr hf (by rw [← hs]; exact sky) fun h3 fl3 up3 => ?_
    exact clauses hs hf hN hi hln tk ok (J'.ofTry ok) nb na os ag hh w h3 fl3 (up.trans up3)
  · match f, got with
    | .next, ⟨σ', H', J', q⟩ => exact wpAny_execs_nil ⟨σ', H', J'.ofTry ok, q⟩
    | .brk, ⟨σ', H', J', q⟩ => exact ⟨σ', H', J'.ofTry ok, q⟩
    | .cont, ⟨σ', H', J', q⟩ => exact ⟨σ', H', J'.ofTry ok, q⟩
    | .ret u, ⟨v, σ', H', J', r, q⟩ => exact ⟨v, σ', H', J'.ofTry ok, r, q⟩
end
end Hw

set_option Elab.async false
set_option linter.all false
set_option maxRecDepth 100000
set_option maxHeartbeats 4000000
namespace Hw
open PySem PySem.Spec PyProof.Rows L2
/-- e.f in a suite, e the caught exception's name: the class is told by the reading -/
def tXa (K : PySem.W.Frag) (a : Addr) (cls : Value) (d : Option Addr) (f : Str) (i : Nat) : TE := fun σ H Q => σ[i]? = some (some (.ref a)) ∧ ∃ C, cls = .ref C ∧ XfC K C ∧ PySem.W.findIn K (.ref C) f = some none ∧
  ∃ (dd : Addr) (fs : List (Str × V)) (v : V), d = some dd ∧ H dd = some (.xd fs) ∧ fs.lookup f = some v ∧ Q v H
theorem pe_xa {X : Cx} {a : Addr} {oe : Obj} {cls : Value} {d : Option Addr} {pn : List (Addr × Obj)} {pos p : Pos} {n f : Str} {i : Nat} (hz : Zc cls d oe) (hf : ∃ vs, oe.data = .fields vs) (hN : X.N[i]? = some n) (hv : Vis X.env.scope n)
    (hd : (n == ("__debug__" : Str)) = false := by decide) (hcd : (n == ("__classdict__" : Str)) = false := by decide) (hb : attributeBase (.Name n p) f X.env (eval (.Name n p) X.env) = eval (.Name n p) X.env := by rfl) :
    PE (X.suite a ((a, oe) :: pn)) (.Attribute (.Name n p) f pos) (tXa X.K a cls d f i) := by
  refine ⟨fun pins s σ H Q I h => ?_⟩
  obtain ⟨hs, C, ec, T, no, dd, fs, v, ed, hx, l, q⟩ := h
  exact (pe_xf (X := X) T no hz hf (pe_var (X := X.suite a ((a, oe) :: pn)) (pos := p) (i := i) hN hv hd hcd) hb).run pins s σ H Q I ⟨.ref a, hs, rfl, ec, dd, fs, v, ed, hx, l, q⟩
end Hw

set_option Elab.async false
set_option linter.all false
set_option maxRecDepth 100000
set_option maxHeartbeats 4000000
namespace Hw
open PySem PySem.Spec PyProof.Rows L2
/-! own errors over any built-in class of errors whose stores go the plain way -/
structure Bse (B nw ini : String) (tl : List Value) : Prop where
  fct : ExcBaseFacts B nw ini tl
  pas : ∀ self, refuseLoop self "__setattr__" tl = pure ()
  obj : tl.contains (.type "object") = true
  typ : typeOf (.type B) = pure (.type "type")
abbrev tlV : List Value := [.type "ValueError", .type "Exception", .type "BaseException", .type "object"]
abbrev tlL : List Value := [.type "LookupError", .type "Exception", .type "BaseException", .type "object"]
theorem bseV : Bse "ValueError" "ValueError.__new__" "ValueError.__init__" tlV := ⟨PySem.F.excBase_ValueError, PySem.F.store_ValueError.passes, by decide +kernel, by kernel_rfl⟩
theorem bseL : Bse "LookupError" "LookupError.__new__" "LookupError.__init__" tlL := ⟨PySem.F.excBase_LookupError, PySem.F.store_LookupError.passes, by decide +kernel, by kernel_rfl⟩
/-- own classes ahead of the built-in ones -/
def mroT (cs : List Addr) (tl : List Value) : List Value := cs.map Value.ref ++ tl
theorem mro_pass {tl : List Value} {self : Value} (h : refuseLoop self "__setattr__" tl = pure ()) : ∀ cs : List Addr, refuseLoop self "__setattr__" (mroT cs tl) = pure ()
  | [] => h
  | c :: cs => by
    show refuseLoop self "__setattr__" (.ref c :: mroT cs tl) = _
    rw [refuseLoop_ref]
    exact mro_pass h cs
theorem mro_has {tl : List Value} (x : String) : ∀ cs : List Addr, (mroT cs tl).contains (.type x) = tl.contains (.type x)
  | [] => rfl
  | c :: cs => by
    show (Value.ref c :: mroT cs tl).contains (.type x) = _
    rw [List.contains_cons, mro_has x cs]
    rfl
/-- what the written part says of an own class of errors -/
structure Own (K : PySem.W.Frag) (nw : String) (tl : List Value) (C : Addr) : Prop where
  cls : ∃ nm q N bs cs sn sub ab col dd k0 k1 k2 k3 k5, K.lookup C = some (excClassObj nm q C N bs (mroT cs tl) true sn sub ab col dd k0 k1 k2 k3 k5 nw)
  sa : PySem.W.findIn K (.ref C) "__setattr__" = some (some (.builtin "object.__setattr__"))
  exC : PySem.W.subIn K (.ref C) (.type "BaseException") = some true
  tyC : PySem.W.typeIn K (.ref C) = some (.type "type")
  kC : PySem.W.keepIn K (.ref C) = true
theorem Own.data {K : PySem.W.Frag} {nw : String} {tl : List Value} {C : Addr} (T : Own K nw tl C) : ∃ (cd : ClassData) (cs : List Addr), PySem.W.clsIn K C = some cd ∧ cd.mro = mroT cs tl ∧ cd.hasDict = true := by
  obtain ⟨nm, q, N, bs, cs, sn, sub, ab, col, dd, k0, k1, k2, k3, k5, hC⟩ := T.cls
  refine ⟨{ name := nm, bases := bs, mro := .ref C :: mroT cs tl, ns := N, qualname := q, hasDict := true, slotNames := sn, subclasses := sub, abstract := ab, collection := col, hasDel := false }, C :: cs, ?_, rfl, rfl⟩
  unfold PySem.W.clsIn
  rw [hC] <;> rfl
section
open Builtin Builtin.ObjectAttr
variable {prog : Program} {w : World} {A : Around} {R : Result → Shared → Prop} {hp : Heap} {g : Array GenState} {d : Drawn} {t : Nat} {os : OsState}
/-- a store into such an error: into its dict, or into one that is laid for it -/
theorem put_field {K : PySem.W.Frag} {B nw ini : String} {tl : List Value} {name : Str} {tk : Tok} {v : Value} {x C : Addr} {fv : Array Value} {cd : ClassData} {cs : List Addr} {dc : Option Addr} {od : Option Obj}
    (b : Bse B nw ini tl) (X : K.In hp) (I : PySem.W.InstAt hp x { cls := .ref C, dict := dc, data := .fields fv } C od) (hcd : PySem.W.clsIn K C = some cd) (hm : cd.mro = mroT cs tl) (hh : cd.hasDict = true) (ha : PySem.W.findIn K (.ref C) name = some none)
    (q : (dc = none ∧ ∀ h' tk' dx, (∀ b o, b ≠ x → hp.get? b = some o → h'.get? b = some o) → hp.objs.size ≤ dx → dx ≠ x → h'.get? x = some { cls := .ref C, dict := some dx, data := .fields fv } →
          h'.Ns1 dx (fun y => if y = name then some v else none) → R (.ok (.ret .none)) ⟨h', g, d, tk', os⟩) ∨
        (∃ (dx : Addr) (m0 : Str → Option Value) (nl : List Str), dc = some dx ∧ hp.Ns1 dx m0 ∧ Within m0 nl ∧ nl.length ≤ 1000 ∧
          ∀ h' tk', (∀ b o, b ≠ dx → hp.get? b = some o → h'.get? b = some o) → h'.Ns1 dx (fun y => if y = name then some v else m0 y) → R (.ok (.ret .none)) ⟨h', g, d, tk', os⟩)) :
    codeAny (model prog w) A (.call (.builtin "object.__setattr__") ⟨[.ref x, .str name tk, v], []⟩) R ⟨hp, g, d, t, os⟩ := by
  have full : cd.mro.isEmpty = false := by
    have o : cd.mro.contains (.type "object") = true := by rw [hm, mro_has, b.obj]
    cases e : cd.mro with
    | nil => rw [e] at o; exact absurd o (by decide)
    | cons _ _ => rfl
  have hob : cd.mro.contains (.type "object") = true := by rw [hm, mro_has, b.obj]
  have SF := PySem.F.store_object
  have sub : PySem.W.Looks (model prog w) hp (isInstance (.ref x) (.type "object")) true := by
    refine I.type.andThen (PySem.W.looks_mroIn X ?_)
    unfold PySem.W.mroIn
    rw [hcd, Option.bind_some, if_neg (by rw [full]; decide), hob]
  refine codeAny_call_builtin SF.slot.plain SF.entry ?_
  refine @PySem.W.check_slot (model prog w) _ _ ⟨hp, g, d, t, os⟩ "object.__setattr__" "object" "__setattr__" (.ref x) [.str name tk, v] [] _ SF.kind SF.split sub (SF.args (.ref x) (.str name tk) v) ?_
  have mr : PySem.W.Looks (model prog w) hp (mroOf (.ref C)) cd.mro := (PySem.W.looks_clsIn X hcd).andThen .now
  have cl : PySem.W.Looks (model prog w) hp (classData C) cd := PySem.W.looks_clsIn X hcd
  have tn : PySem.W.Looks (model prog w) hp (storeTaker? none) none := .now
  rw [PySem.W.osa_eq, refuse_eq]
  refine wpAny_bind (wpAny_bind (I.type.at (wpAny_bind (mr.at ?_))))
  rw [hm, mro_pass (b.pas _)]
  refine wpAny_pure (wpAny_bind (I.type.at ?_))
  refine wpAny_bind ((PySem.W.looks_findIn X ha).at ?_)
  refine wpAny_bind (tn.at ?_)
  show wpAny _ _ (storeInOwnDict (.ref x) (.ref C) (.str name tk) name v false) _ _ _
  obtain ⟨nm, bs, mro, ns, qn, hd, sn, sb, ab, col, del⟩ := cd
  dsimp only at hh
  subst hh
  have hx := I.at_
  unfold storeInOwnDict ownDictForStores
  rcases q with ⟨rfl, q⟩ | ⟨dx, m0, nl, rfl, hn, hw, hz, q⟩
  · have hxs : x ≠ hp.objs.size := Nat.ne_of_lt (Heap.lt_size hx)
    repeat (first | with_reducible refine PySem.HandSPX.store_in_new ?_ ?_ | with_reducible refine wpAny_loadPart_at hx ?_ | with_reducible refine cl.at ?_ | wp_step)
    · exact ⟨_, #[], _, (Heap.get?_update_ne _ _ _ _ hxs.symm).trans (Heap.get?_push_at rfl rfl), rfl, fun e he => absurd he (by simp), fun _ => rfl⟩
    · intro h' tk' hn' hs
      have hx1 := Heap.get?_push_of_some { cls := .type "dict", data := .dict #[] } hx
      refine q h' tk' hp.objs.size (fun c o hc ho => ?_) (Nat.le_refl _) hxs.symm ((hs.2 x hxs).trans (Heap.get?_update_self _ hx1 rfl)) hn'
      rw [hs.2 c (Nat.ne_of_lt (Heap.lt_size ho)), Heap.get?_update_ne _ _ _ _ hc]
      exact Heap.get?_push_of_some _ ho
  · repeat (first | with_reducible refine PySem.OEX.store_in_old hn hw hz ?_ | with_reducible refine wpAny_loadPart_at hx ?_ | with_reducible refine cl.at ?_ | wp_step)
    intro h' tk' hn' hs
    exact q h' tk' (fun c o hc ho => by rw [hs.2 c hc]; exact ho) hn'
end
section
variable {X : Cx} {pins : List (Addr × Obj)} {σ : L2.St} {H : Hp} {s : Shared} {a C dx : Addr} {f : Str} {y : V} {u : Value} {fs : List (Str × V)} {B nw ini : String} {tl : List Value}
/-- the dict that the first store lays -/
theorem laid_dict {h' : Heap} {t' : Nat} {mA : Str → Option Value} (I : Inv X pins σ H s) (e : H a = some (exo a C none)) (keep : ∀ b o, b ≠ a → s.heap.get? b = some o → h'.get? b = some o) (dn : s.heap.objs.size ≤ dx) (dne : dx ≠ a)
    {t1 : Addr} (hx : h'.get? a = some ({ cls := .ref C, dict := some dx, data := .fields #[.ref t1, .none, .none, .none, .bool false, .none] } : Obj)) (hn : h'.Ns1 dx mA) (r : ∀ g, RelO (fs.lookup g) (mA g)) :
    H dx = none ∧ Inv X pins σ (upd (upd H dx (exd dx fs)) a (exo a C (some dx))) { s with heap := h', toks := t' } := by
  have free : H dx = none := I.hok.fresh dn
  obtain ⟨hp, gs, dr, tk, os⟩ := s
  have off : ∀ {b : Addr} {o : Obj}, hp.get? b = some o → b ≠ dx := fun {b o} z => Nat.ne_of_lt (Nat.lt_of_lt_of_le (Heap.lt_size z) dn)
  have nota : ∀ {b : Addr}, H b = none → b ≠ a := fun {b} n z => by
    rw [z, e] at n
    cases n
  have stays : ∀ {b : Addr} {o : HO}, H b = some o → exo a C none ≠ o → upd (upd H dx (exd dx fs)) a (exo a C (some dx)) b = some o := fun {b o} z n => by
    rw [upd_ne (at_ne e z n), upd_ne (ne_of_none z free)]
    exact z
  refine ⟨free, I.un (t' := t') (h' := h') ?_ ?_⟩
  · refine { keep := fun b o z n _ _ => keep b o (nota n) z, slot := fun b o z n _ _ => ⟨o.slots, keep b o (nota n) z⟩, free := ?_, there := ?_, tups := fun b xs z => stays z exo_tup, frzs := fun b o v z => stays z exo_frz, tbls := fun b ps z => ⟨#[], ?_⟩ }
    · intro b o z n _
      rw [upd_ne (nota n), upd_ne (off z)]
      exact n
    · intro b o z _
      by_cases hb : b = a
      · subst hb
        exact ⟨_, hx⟩
      · exact ⟨o, keep b o hb z⟩
    · rw [stays z exo_tbl]
      simp
  · intro b o z
    by_cases hb : b = a
    · subst hb
      rw [upd_same] at z
      cases z
      exact exo_ok hx
    rw [upd_ne hb] at z
    by_cases hd : b = dx
    · subst hd
      rw [upd_same] at z
      cases z
      exact exd_ok hn r
    rw [upd_ne hd] at z
    refine (I.hok b o z).stay (fun c v hc w => keep c v ?_ w) (fun c hc => stays hc exo_own) (fun c xs hc => stays hc exo_tup)
    rcases hc with hc | hc
    · rw [hc]
      exact hb
    · exact at_ne e hc exo_own
variable {Q : Unit → Shared → Prop} {E : Value → Shared → Prop} {A : Around}
theorem store_first (b : Bse B nw ini tl) (T : Own X.K nw tl C) (I : Inv X pins σ H s) (e : H a = some (exo a C none)) (no : PySem.W.findIn X.K (.ref C) f = some none) (ry : RelV y u)
    (h : ∀ dx s', H dx = none → dx ≠ a → Inv X pins σ (upd (upd H dx (exd dx [(f, y)])) a (exo a C (some dx))) s' → Q () s') : wpAny (model X.prog X.w) A (setAttr (.ref a) f u) Q E s := by
  obtain ⟨cd, cs, hcd, hm, hh⟩ := T.data
  obtain ⟨t1, ho⟩ := exo_at I.hok e
  have I0 := I
  obtain ⟨hp, gs, dr, tk, os⟩ := s
  have J : PySem.W.InstAt hp a ({ cls := .ref C, dict := none, data := .fields #[.ref t1, .none, .none, .none, .bool false, .none] } : Obj) C none := ⟨ho, rfl, rfl, trivial⟩
  refine PySem.W.set_plain I.kIn J T.sa (put_field b I.kIn J hcd hm hh no (.inl ⟨rfl, fun h' tk' dx k dn dne hx hn => ?_⟩))
  obtain ⟨fr, K'⟩ := laid_dict (t' := tk') (fs := [(f, y)]) I0 e k dn dne hx hn (relO_put (fs := []) ry fun g => True.intro)
  exact h dx _ fr dne K'
theorem store_more (b : Bse B nw ini tl) (T : Own X.K nw tl C) (I : Inv X pins σ H s) (e : H a = some (exo a C (some dx))) (ed : H dx = some (exd dx fs)) (hl : fs.length ≤ 900) (no : PySem.W.findIn X.K (.ref C) f = some none) (ry : RelV y u)
    (h : ∀ s', Inv X pins σ (upd H dx (exd dx ((f, y) :: fs))) s' → Q () s') : wpAny (model X.prog X.w) A (setAttr (.ref a) f u) Q E s := by
  obtain ⟨cd, cs, hcd, hm, hh⟩ := T.data
  obtain ⟨t1, ho⟩ := exo_at I.hok e
  obtain ⟨mA, hns, rel⟩ := exd_at I.hok ed
  have hw := within_of rel
  have I0 := I
  obtain ⟨hp, gs, dr, tk, os⟩ := s
  obtain ⟨oD, _, _, hoD, _, _⟩ := hns.count hw
  have J : PySem.W.InstAt hp a ({ cls := .ref C, dict := some dx, data := .fields #[.ref t1, .none, .none, .none, .bool false, .none] } : Obj) C (some oD) := ⟨ho, rfl, rfl, hoD⟩
  refine PySem.W.set_plain I.kIn J T.sa (put_field b I.kIn J hcd hm hh no (.inr ⟨dx, mA, _, rfl, hns, hw, by rw [List.length_map]; omega, fun h' tk' k hn => ?_⟩))
  have there : ∃ o, h'.get? dx = some o := let ⟨o, _, _, e', _⟩ := hn; ⟨o, e'⟩
  exact h _ (I0.write (t' := tk') (x := dx) (e := dx) (o := exd dx ((f, y) :: fs)) (by rw [ed]; exact True.intro) (.inl rfl) k there (exd_ok hn (relO_put ry rel)))
/-- the built-in class's __init__: nothing of it is told -/
theorem base_init {us : List Value} {Q : Value → Shared → Prop} (b : Bse B nw ini tl) (T : Own X.K nw tl C) (I : Inv X pins σ H s) (e : H a = some (exo a C none)) (hl : us.length ≤ sizeLine) (h : ∀ s', Inv X pins σ H s' → Q .none s') :
    wpAny (model X.prog X.w) A (call (.builtin ini) (.ref a :: us)) Q E s := by
  obtain ⟨nm, q, N, bs, cs, sn, sub, ab, col, dd, k0, k1, k2, k3, k5, hC⟩ := T.cls
  obtain ⟨t1, ho⟩ := exo_at I.hok e
  obtain ⟨hp, gs, dr, tk, os⟩ := s
  refine wpAny_call (PySem.HandSPX.init_base b.fct (fun Y => mro_has Y cs) (I.kIn _ _ hC) ho hl fun h' t2 k hx => ?_)
  have J := I.write (t' := tk) (x := a) (e := a) (o := exo a C none) (by rw [e]; exact True.intro) (.inl rfl) k ⟨_, hx⟩ (exo_ok hx)
  have same : upd H a (exo a C none) = H := funext fun c => by
    by_cases hc : c = a
    · rw [hc, upd_same, e]
    · rw [upd_ne hc]
  rw [same] at J
  exact h _ J
end
/-! readings -/
def tBi (K : PySem.W.Frag) (nw : String) (tl : List Value) (ta : TA) : TE := fun σ H Q => ta σ H fun vs H1 => ∃ (a C : Addr) (ws : List V), vs = .ref a :: ws ∧ ws.length ≤ 1000 ∧ Own K nw tl C ∧ H1 a = some (exo a C none) ∧ Q .non H1
def tSt (K : PySem.W.Frag) (nw : String) (tl : List Value) (f : Str) (to te : TE) : TS := fun D σ H => te σ H fun y H1 => to σ H1 fun x H2 => ∃ a C : Addr, x = .ref a ∧ Own K nw tl C ∧ PySem.W.findIn K (.ref C) f = some none ∧
  ((H2 a = some (exo a C none) ∧ ∀ dx, H2 dx = none → dx ≠ a → D.nx σ (upd (upd H2 dx (exd dx [(f, y)])) a (exo a C (some dx)))) ∨
    ∃ (dx : Addr) (fs : List (Str × V)), H2 a = some (exo a C (some dx)) ∧ H2 dx = some (exd dx fs) ∧ fs.length ≤ 900 ∧ D.nx σ (upd H2 dx (exd dx ((f, y) :: fs))))
section
variable {X : Cx} {o e : Expr} {es : List Expr} {to te : TE} {ta : TA} {f : Str} {p p' p1 p2 pos : Pos} {B nw ini : String} {tl : List Value}
/-- B.__init__(self, ..), B the built-in class -/
theorem pe_binit {x : Str} {pl : Sem Bool} (b : Bse B nw ini tl) (hx : bootBuiltins x = some (.type B)) (hg : Gl X x) (hm : X.mg x = none) (vB : PySem.W.findCls X.K (.type B) (.type "type") "__init__" = some (.val (.builtin ini))) (ha : PA X (e :: es) ta)
    (hn : x ≠ "__name__" := by decide) (hd : (x == ("__debug__" : Str)) = false := by decide) (st : Manifest.isStub B = false := by decide +kernel) (hh : PySem.W.handedIn (.builtin ini) = true := by decide +kernel)
    (hc : eval (.Call (.Attribute (.Name x p1) "__init__" p2) (e :: es) [] pos) X.env = (do
      let cls ← eval (.Name x p1) X.env
      standAt p2.atName
      let (f, first) ← holding [cls] (getMethod cls "__init__" pl)
      callWith pos f first (backTo pos (starEach (e :: es) X.env)) (backToKw pos (keywordEach [] X.env))) := by rfl)
    (he : starEach (e :: es) X.env = (false, eval e X.env) :: starEach es X.env := by rfl) (hpl : (backTo pos (starEach es X.env)).any (·.1) = false := by rfl) :
    PE X (.Call (.Attribute (.Name x p1) "__init__" p2) (e :: es) [] pos) (tBi X.K nw tl ta) := by
  refine ⟨fun pins s σ H Q I h => ?_⟩
  obtain ⟨m, fr⟩ := I.fr
  refine PySem.W.methodCall_KW (ld_blt I hg hm hx (PySem.W.method_type fr I.ok.mod.kin b.typ st vB hh ?_) hn hd) hc
  show wpAny _ _ (callWith pos (Value.builtin ini) [] (backTo pos (starEach (e :: es) X.env)) []) _ _ _
  refine PyProof.Rows.callWith_method1 (thn (ha.run pos pins _ σ H _ (I.tok _) h) ?_) he hpl
  rintro us s1 ⟨vs, H1, I1, r1, a, C, ws, rfl, hl, T, ea, q⟩
  match r1 with
  | .cons (b := u0) (l₂ := ur) ra rw' =>
    cases (show u0 = Value.ref a from ra)
    exact base_init b T I1 ea (by rw [← Paired.length rw', sizeLine_eq]; omega) fun s' J => ⟨.non, H1, J, rfl, q⟩
/-- self.f = e -/
theorem ps_st (b : Bse B nw ini tl) (ho : PE X o to) (he : PE X e te) (hs : swapsWith e (some (.Attribute o f p')) pos.line X.env = pure false := by rfl) : PS X (.Assign [.Attribute o f p'] e pos) (tSt X.K nw tl f to te) := by
  refine ⟨fun pins s σ H D I h => plainObj_wpAny_Assign_Attribute (thn (he.run pins s σ H _ I h) ?_) hs⟩
  rintro v s1 ⟨y, H1, I1, r1, q1⟩
  refine thn (ho.run pins s1 σ H1 _ I1 q1) ?_
  rintro u s2 ⟨x, H2, I2, r2, a, C, rfl, T, no, q⟩
  cases (show u = Value.ref a from r2)
  rcases q with ⟨ea, q⟩ | ⟨dx, fs, ea, ed, hl, q⟩
  · exact store_first b T I2 ea no r1 fun dx s' n ne J => ⟨σ, _, J, q dx n ne⟩
  · exact store_more b T I2 ea ed hl no r1 fun s' J => ⟨σ, _, J, q⟩
section
variable {CX : CXT} {x : Str} {C fI : Addr} {k : Nat} {fd : FuncData} {ps : List Str} {sp : Sp}
/-- the made error, its __init__ having run -/
theorem made_run {pins : List (Addr × Obj)} {σ : L2.St} {H1 : Hp} {Q : XK} {s1 : Shared} {us : List Value} {vs : List V} (b : Bse B nw ini tl) (T : Own X.K nw tl C) (iC : PySem.W.findIn X.K (.ref C) "__init__" = some (some (.ref fI))) (tI : PySem.W.typeIn X.K (.ref fI) = some (.type "function"))
    (G : FnOk X.prog X.w X.K X.mg X.base CX k fI fd ps sp) (hr : Room (k + 1) X.A) (hb : Binds X.K fd ps []) (hx : Passes CX X (fun _ _ _ => False)) (I1 : Inv X pins σ H1 s1) (r1 : Vals vs us) (hz : vs.length ≤ 1000)
    (q1 : ∀ a, H1 a = none → sp (.ref a :: vs) (upd H1 a (exo a C none)) (fun v H2 => v = .non ∧ ∃ (d : Addr) (fs : List (Str × V)), H2 a = some (exo a C (some d)) ∧ H2 d = some (exd d fs) ∧ H1 d = none ∧ Q (.ref C) (some d) (upd (del H2 a) d (.xd fs))) (fun _ _ _ => False)) :
    wpAny (model X.prog X.w) X.A (call (.ref C) us) (MkP X pins σ Q) X.xe s1 := by
  obtain ⟨nm, q, N, bs, cs, sn, sub, ab, col, dd, k0, k1, k2, k3, k5, hC⟩ := T.cls
  obtain ⟨hp, gs, dr, tk, os⟩ := s1
  have hsz : hp.objs.size ≤ hp.objs.size + 1 := Nat.le_succ _
  have want := q1 (hp.objs.size + 1) (I1.hok.fresh hsz)
  generalize hh2 : (hp.push (PySem.W.kdv_tup us)).push (PySem.HandSPX.excO C hp.objs.size) = h2
  have kk : ∀ c o, hp.get? c = some o → h2.get? c = some o := fun c o e => by
    rw [← hh2]
    exact Heap.get?_push_of_some _ (Heap.get?_push_of_some _ e)
  have there : h2.get? (hp.objs.size + 1) = some (PySem.HandSPX.excO C hp.objs.size) := by
    rw [← hh2]
    heap_get
  have I2 : Inv X pins σ (upd H1 (hp.objs.size + 1) (exo (hp.objs.size + 1) C none)) ⟨h2, gs, dr, tk, os⟩ := I1.laid (t' := tk) (h' := h2) kk hsz (exo_ok there)
  have r2 : Vals (V.ref (hp.objs.size + 1) :: vs) (Value.ref (hp.objs.size + 1) :: us) := .cons rfl r1
  have hl : (Value.ref (hp.objs.size + 1) :: us).length = ps.length := (Paired.length r2).symm.trans (G.len _ _ _ _ want)
  have few : us.length ≤ sizeLine := by rw [← Paired.length r1, sizeLine_eq]; omega
  refine wpAny_call (PySem.HandSPX.call_own b.fct (fun Y => mro_has Y cs) (I1.kIn _ _ hC) (PySem.W.looks_findIn I1.kIn iC) (fun self => PySem.W.bind_fn I1.kIn self tI) few ?_)
  rw [hh2]
  have bt := hb ⟨h2, gs, dr, tk, os⟩ (Value.ref (hp.objs.size + 1) :: us) I2.kIn (by rw [List.append_nil]; exact hl)
  rw [List.append_nil] at bt
  refine codeAny_mono (G.run _ X.stack _ _ ⟨Value.ref (hp.objs.size + 1) :: us, []⟩ _ _ _ (fun _ _ _ => False) (hr.make C us []) (I2.env0.make C us []) bt r2 want) fun r s' got => ?_
  match r, got with
  | .error er, got => exact hx pins σ _ _ er s' I2 got
  | .ok (.ret u), got =>
    obtain ⟨v, H2, os2, bare2, un2, hok2, rv, ev, d, fs, ea, ed, hd1, q2⟩ := got
    subst ev
    obtain ⟨hh, g2, d2, t2, os'⟩ := s'
    exact ⟨rv, mk_end (raises_own T.exC T.tyC) I1 hsz kk un2 hok2 os2 bare2 ea ed hd1 q2⟩
  | .ok .next, got => exact False.elim got
  | .ok .brk, got => exact False.elim got
  | .ok .cont, got => exact False.elim got
/-- C(e, ..) -/
theorem pmk_err (b : Bse B nw ini tl) (T : Own X.K nw tl C) (iC : PySem.W.findIn X.K (.ref C) "__init__" = some (some (.ref fI))) (tI : PySem.W.typeIn X.K (.ref fI) = some (.type "function"))
    (G : FnOk X.prog X.w X.K X.mg X.base CX k fI fd ps sp) (hr : Room (k + 1) X.A) (hb : Binds X.K fd ps []) (hx : Passes CX X (fun _ _ _ => False)) (hg : Gl X x) (hm : X.mg x = some (.ref C)) (ha : PA X (e :: es) ta)
    (hd : (x == ("__debug__" : Str)) = false := by decide) (he : starEach (e :: es) X.env = (false, eval e X.env) :: starEach es X.env := by rfl) (hpl : (backTo pos (starEach es X.env)).any (·.1) = false := by rfl) :
    PMk X (.Call (.Name x p) (e :: es) [] pos) (tMkO C sp [] ta) := by
  intro pins s σ H Q I h
  refine wpAny_Call_Name_kw (ld_glob I hg hm ?_ hd)
  refine PySem.W.callWith_K (h₀ := X.base) I.ok.mod.kin T.kC (thn (ha.run pos pins s σ H _ I h) ?_) he hpl
  rintro us s1 ⟨vs, H1, I1, r1, hz, q1⟩
  refine ⟨I1.kIn, ?_⟩
  show wpAny _ _ (call (.ref C) us) _ _ _
  refine made_run b T iC tI G hr hb hx I1 r1 hz fun a na => ?_
  have := q1 a na
  rw [List.append_nil] at this
  exact this
/-- C() -/
theorem pmk_err0 (b : Bse B nw ini tl) (T : Own X.K nw tl C) (iC : PySem.W.findIn X.K (.ref C) "__init__" = some (some (.ref fI))) (tI : PySem.W.typeIn X.K (.ref fI) = some (.type "function"))
    (G : FnOk X.prog X.w X.K X.mg X.base CX k fI fd ps sp) (hr : Room (k + 1) X.A) (hb : Binds X.K fd ps []) (hx : Passes CX X (fun _ _ _ => False)) (hg : Gl X x) (hm : X.mg x = some (.ref C)) (hd : (x == ("__debug__" : Str)) = false := by decide) :
    PMk X (.Call (.Name x p) [] [] pos) (tMkO C sp [] tNil) := by
  intro pins s σ H Q I h
  obtain ⟨_, q1⟩ := h
  refine wpAny_Call_Name_kw (ld_glob I hg hm ?_ hd)
  refine PySem.W.callWith_K0 I.kIn T.kC ?_
  show wpAny _ _ (call (.ref C) []) _ _ _
  exact made_run b T iC tI G hr hb hx I .nil (Nat.zero_le _) q1
end
end
end Hw

set_option Elab.async false
set_option linter.all false
set_option maxRecDepth 100000
set_option maxHeartbeats 4000000
namespace Hw
open PySem PySem.Spec PyProof.Rows L2
/-! C.m(e, ..): a def of a class, called off the class -/
section
variable {X : Cx} {CX : CXT} {k : Nat} {f C : Addr} {fd : FuncData} {ps : List Str} {sp : Sp} {dvs : List V} {ds : List Value} {E : XK} {x m : Str} {p1 p2 pos : Pos} {e : Expr} {es : List Expr} {t : TA} {mc : Value} {pl : Sem Bool}
theorem pe_callC (r : ClX.CRead X.K C mc) (c : ClX.CVal X.K C mc m (.ref f) (.ref f)) (F : FnOk X.prog X.w X.K X.mg X.base CX k f fd ps sp) (hr : Room k X.A)
    (hg : Gl X x) (hm : X.mg x = some (.ref C)) (hk : PySem.W.keepIn X.K (.ref f) = true) (hb : Binds X.K fd ps ds) (hd : Vals dvs ds) (hx : Passes CX X E) (ha : PA X (e :: es) t)
    (hdb : (x == ("__debug__" : Str)) = false := by decide)
    (he : starEach (e :: es) X.env = (false, eval e X.env) :: starEach es X.env := by rfl) (hpl : (backTo pos (starEach es X.env)).any (·.1) = false := by rfl)
    (ht : eval (.Call (.Attribute (.Name x p1) m p2) (e :: es) [] pos) X.env = (do
      let cls ← eval (.Name x p1) X.env
      standAt p2.atName
      let (f, first) ← holding [cls] (getMethod cls m pl)
      callWith pos f first (backTo pos (starEach (e :: es) X.env)) (backToKw pos (keywordEach [] X.env))) := by rfl) :
    PE X (.Call (.Attribute (.Name x p1) m p2) (e :: es) [] pos) (tCall sp dvs E t) := by
  constructor
  intro pins s σ H Q I h
  refine PySem.W.methodCall_KW (pl := pl) (ld_glob I hg hm ?_ hdb) ht
  refine PySem.W.method_cls I.kIn r.ga (ClX.getcval_ok I r c fun s' J => ?_)
  refine PySem.W.callWith_K (h₀ := X.base) (first := []) J.ok.mod.kin hk (thn (ha.run pos pins s' σ H _ J h) ?_) he hpl
  rintro us s1 ⟨vs, H1, I1, rv, q⟩
  exact ⟨I1.kIn, run_fn F hr hb hd hx I1 rv q⟩
end
/-! what the __init__ of an error leaves -/
/-- v, told as a text -/
inductive ArgT : V → Str → Prop
  | str (y : Str) (h : (reprText y).length ≤ 200) : ArgT (.str y) (reprText y)
  | int (i : Int) (h : i.natAbs < 2 ^ 100) : ArgT (.int i) (toString i)
theorem ArgT.len {v : V} {y : Str} (h : ArgT v y) : y.length ≤ 200 := by
  cases h with
  | str y h => exact h
  | int i h =>
    have lg : i.natAbs.log2 < 100 := by
      by_cases z : i.natAbs = 0
      · rw [z]; decide
      · exact (Nat.log2_lt z).mpr h
    have : (Str.ofString (toString i)).length ≤ 101 := by
      rw [PySem.ofString_length]
      exact int_text_length_le (by decide) lg
    exact Nat.le_trans this (by decide)
theorem ArgT.fmt {H1 : Hp} {v : V} {y : Str} {Q : VK} (h : ArgT v y) (q : Q (.str y) H1) : (∃ y : Str, v = .str y ∧ (reprText y).length ≤ sizeLine ∧ Q (.str (reprText y)) H1) ∨ ∃ i : Int, v = .int i ∧ i.natAbs.log2 < 1920 ∧ Q (.str (toString i)) H1 := by
  have l := h.len
  cases h with
  | str y h => exact .inl ⟨y, rfl, Nat.le_trans h (by decide +kernel), q⟩
  | int i h =>
    refine .inr ⟨i, rfl, ?_, q⟩
    by_cases z : i.natAbs = 0
    · rw [z]; decide
    · exact Nat.lt_trans ((Nat.log2_lt z).mpr h) (by decide)
theorem fmtR_var {i : Nat} {σ : L2.St} {H : Hp} {v : V} {y : Str} {Q : VK} (h : ArgT v y) (hs : σ[i]? = some (some v)) (q : Q (.str y) H) : tFmtR (tVar i) σ H Q := ⟨v, hs, ArgT.fmt h q⟩
def NoF (K : PySem.W.Frag) (C : Addr) (fs : List (Str × V)) : Prop := ∀ p ∈ fs, PySem.W.findIn K (.ref C) p.1 = some none
/-- of the two upper classes: word, about -/
def spBase (K : PySem.W.Frag) (nw : String) (tl : List Value) : Sp := fun vs H Q _ => ∃ (a C : Addr) (wd ab : Str), vs = [.ref a, .str wd, .str ab] ∧ wd.length + ab.length ≤ 1000 ∧ Own K nw tl C ∧ PySem.W.findIn K (.ref C) "word" = some none ∧ H a = some (exo a C none) ∧
  ∀ dx, H dx = none → dx ≠ a → Q .non (upd (upd H dx (exd dx [("word", .str wd)])) a (exo a C (some dx)))
/-- of a class below: its fields, the latest first -/
def spErr (K : PySem.W.Frag) (nw : String) (tl : List Value) (n : Nat) (fs : List V → List (Str × V)) : Sp := fun vs H Q _ => ∃ (a C : Addr) (ws : List V), vs = .ref a :: ws ∧ ws.length = n ∧ (∀ v ∈ ws, ∃ y, ArgT v y) ∧ Own K nw tl C ∧ NoF K C (fs ws) ∧ H a = some (exo a C none) ∧
  ∀ dx, H dx = none → dx ≠ a → Q .non (upd (upd H dx (exd dx (fs ws))) a (exo a C (some dx)))
theorem upd_back {H : Hp} {a dx : Addr} {x y z : HO} (n : dx ≠ a) : upd (upd (upd H dx x) a y) dx z = upd (upd H dx z) a y := by
  funext b
  by_cases h1 : b = dx
  · subst h1
    rw [upd_same, upd_ne n, upd_same]
  · rw [upd_ne h1]
    by_cases h2 : b = a
    · subst h2
      rw [upd_same, upd_same]
    · rw [upd_ne h2, upd_ne h2, upd_ne h1, upd_ne h1]
/-- C(..), as raise asks it -/
theorem err_end {K : PySem.W.Frag} {nw : String} {tl : List Value} {n : Nat} {fs : List V → List (Str × V)} {C : Addr} {ws : List V} {H : Hp} {Q : XK} (hl : ws.length = n) (few : n ≤ 1000) (ar : ∀ v ∈ ws, ∃ y, ArgT v y) (T : Own K nw tl C) (nf : NoF K C (fs ws)) (q : ∀ d, H d = none → Q (.ref C) (some d) (upd H d (.xd (fs ws)))) :
    ws.length ≤ 1000 ∧ ∀ a, H a = none → spErr K nw tl n fs (.ref a :: (ws ++ [])) (upd H a (exo a C none)) (fun v H2 => v = .non ∧ ∃ (d : Addr) (fs : List (Str × V)), H2 a = some (exo a C (some d)) ∧ H2 d = some (exd d fs) ∧ H d = none ∧ Q (.ref C) (some d) (upd (del H2 a) d (.xd fs))) (fun _ _ _ => False) := by
  refine ⟨by omega, fun a na => ⟨a, C, ws, by rw [List.append_nil], hl, ar, T, nf, upd_same, fun dx n1 n2 => ?_⟩⟩
  have nd : H dx = none := by
    rw [upd_ne n2] at n1
    exact n1
  refine ⟨rfl, dx, _, upd_same, by rw [upd_ne n2, upd_same], nd, ?_⟩
  have eh : upd (del (upd (upd (upd H a (exo a C none)) dx (exd dx (fs ws))) a (exo a C (some dx))) a) dx (.xd (fs ws)) = upd H dx (.xd (fs ws)) := by
    funext b
    by_cases h1 : b = dx
    · rw [h1, upd_same, upd_same]
    · rw [upd_ne h1, upd_ne h1]
      by_cases h2 : b = a
      · rw [h2, del_same, na]
      · rw [del_ne h2, upd_ne h2, upd_ne h1, upd_ne h2]
  rw [eh]
  exact q dx nd
/-- an error's fields, the latest first -/
def errF (x : Str) (ps : List Str) (ws : List V) : List (Str × V) := (ps.zip ws).reverse ++ [(("word" : Str), V.str x)]
theorem errF_mem {x : Str} {ps : List Str} {ws : List V} {q : Str × V} (h : q ∈ errF x ps ws) : q.1 ∈ (("word" : Str) :: ps) := by
  rcases List.mem_append.mp h with h | h
  · exact List.mem_cons_of_mem _ (List.of_mem_zip (List.mem_reverse.mp h)).1
  · cases List.mem_singleton.mp h
    exact List.mem_cons_self
/-- what is known of an error's class, its def and what it leaves -/
structure Er (P : Program) (w : World) (K : PySem.W.Frag) (mg : Str → Option Value) (base : Heap) (k : Nat) (nw : String) (tl : List Value) (x : Str) (ps : List Str) (C fI : Addr) (fd : FuncData) : Prop where
  T : Own K nw tl C
  g : mg x = some (.ref C)
  iC : PySem.W.findIn K (.ref C) "__init__" = some (some (.ref fI))
  tI : PySem.W.typeIn K (.ref fI) = some (.type "function")
  G : FnOk P w K mg base CX0 k fI fd (("self" : Str) :: ps) (spErr K nw tl ps.length (errF x ps))
  b : Binds K fd (("self" : Str) :: ps) []
  nf : ∀ f ∈ (("word" : Str) :: ps), PySem.W.findIn K (.ref C) f = some none
section
variable {X : Cx} {B nw ini : String} {tl : List Value} {x : Str} {ps : List Str} {C fI : Addr} {fd : FuncData} {k : Nat} {p pos : Pos} {e : Expr} {es : List Expr} {ta : TA}
theorem pmk_er (b : Bse B nw ini tl) (r : Er X.prog X.w X.K X.mg X.base k nw tl x ps C fI fd) (hr : Room (k + 1) X.A) (hg : Gl X x) (ha : PA X (e :: es) ta)
    (hd : (x == ("__debug__" : Str)) = false := by decide) (he : starEach (e :: es) X.env = (false, eval e X.env) :: starEach es X.env := by rfl) (hpl : (backTo pos (starEach es X.env)).any (·.1) = false := by rfl) :
    PMk X (.Call (.Name x p) (e :: es) [] pos) (tMkO C (spErr X.K nw tl ps.length (errF x ps)) [] ta) := pmk_err b r.T r.iC r.tI r.G hr r.b pass0 hg r.g ha hd he hpl
theorem pmk_er0 (b : Bse B nw ini tl) (r : Er X.prog X.w X.K X.mg X.base k nw tl x ps C fI fd) (hr : Room (k + 1) X.A) (hg : Gl X x) (hd : (x == ("__debug__" : Str)) = false := by decide) :
    PMk X (.Call (.Name x p) [] [] pos) (tMkO C (spErr X.K nw tl ps.length (errF x ps)) [] tNil) := pmk_err0 b r.T r.iC r.tI r.G hr r.b pass0 hg r.g hd
end
theorem Er.fin {P : Program} {w : World} {K : PySem.W.Frag} {mg : Str → Option Value} {base : Heap} {nw : String} {tl : List Value} {x : Str} {ps : List Str} {C fI : Addr} {fd : FuncData} {k : Nat} {ws : List V} {H : Hp} {Q : XK}
    (r : Er P w K mg base k nw tl x ps C fI fd) (hl : ws.length = ps.length) (few : ps.length ≤ 1000) (ar : ∀ v ∈ ws, ∃ y, ArgT v y) (q : ∀ d, H d = none → Q (.ref C) (some d) (upd H d (.xd (errF x ps ws)))) :
    ws.length ≤ 1000 ∧ ∀ a, H a = none → spErr K nw tl ps.length (errF x ps) (.ref a :: (ws ++ [])) (upd H a (exo a C none)) (fun v H2 => v = .non ∧ ∃ (d : Addr) (fs : List (Str × V)), H2 a = some (exo a C (some d)) ∧ H2 d = some (exd d fs) ∧ H d = none ∧ Q (.ref C) (some d) (upd (del H2 a) d (.xd fs))) (fun _ _ _ => False) :=
  err_end hl few ar r.T (fun q hq => r.nf _ (errF_mem hq)) q
end Hw

set_option Elab.async false
set_option linter.all false
set_option maxRecDepth 100000
set_option maxHeartbeats 4000000
namespace Hw
open PySem PySem.Spec PyProof.Rows L2 LamX
/-! a law whose def makes lambdas: its code object is known -/
theorem ok_at {P : Program} {w : World} {K : PySem.W.Frag} {mg : Str → Option Value} {base : Heap} {x qual : Str} {st : Stmt} {f c : Addr} {oc kV doc pm ct : Value} {od an : Option Addr} {osl : Array (Option Value)} {N ps : List Str} {k : Nat} {sp : Sp}
    (lk : K.lookup f = some ⟨oc, od, .func (PySem.W.fnOf x qual (defArgs st) (defBody st) (defScope st) .none kV doc pm an (.ref c) ct), osl⟩) (hcd : PySem.W.codeIn K (.ref c) qual = true) (S : FnScope N ps (defScope st)) (len : ∀ vs H Q E, sp vs H Q E → vs.length = ps.length)
    (body : ∀ (A : Around) (outer : List Env) (s : Shared) (H : Hp) (vs : List V) (Q : VK) (E : XK), Room k (A.deeper (envOfC qual (defScope st) s.heap.objs.size f (.ref c))) → sp vs H Q E →
      ∃ t, PSs (cxOf CX0 P w K mg base N qual (defScope st) f (.ref c) A outer s H E).nox (defBody st) t ∧ t { nx := fun _ H' => Q .non H', rt := Q } (start N vs) H) :
    FnOk P w K mg base CX0 (k + 1) f (PySem.W.fnOf x qual (defArgs st) (defBody st) (defScope st) .none kV doc pm an (.ref c) ct) ps sp :=
  fn_of lk hcd S len fun A outer s H vs Q E hr h => let ⟨t, p, q⟩ := body A outer s H vs Q E hr h; ⟨t, p.nox, q⟩
/-- the end of such a law: the tables of its code objects stand empty at the head -/
theorem walk_law {l : PySem.W.OpenLaw} {n k : Nat} {q : Program} {loose : List Str} {XP : (Str → Option Value) → Heap → Prop} {YP : World → Heap → Prop} {d : DefRec} {K : Params → PySem.W.Frag} {CX : World → CXT} {x : Str}
    (hn : l.most = some n) (hn2 : n ≤ sizeLine) (hdf : d.params.defaults = []) (hr : Room k callerA) (hY : ∀ (w : World) (h : Heap), YP w h → (K w.params).In h)
    (F : ∀ (w : World) (mg : Str → Option Value) (fa : Addr) (h : Heap), (K w.params).In h → h.Ns mainGlobals mg → mg d.name = some (.ref fa) →
      (∀ (y : Str) (e : DefRec) (c P : Addr), (recsOf q).find? (fun e => e.name == y) = some e → PySem.W.tabIn (K w.params) y = some (c, P) → PySem.W.CodeHd h c P ∧ h.get? P = some { cls := .none, data := .fields #[] }) → LawAtS l w (K w.params) (CX w) k n x mg fa h)
    (hCX : ∀ (w : World) (H : Hp) (s : Shared) (e : Value) (s' : Shared), CX w [] H s (fun _ _ _ => False) e s' → False) :
    PySem.W.WalkO q loose XP YP l.row.toRowW d [] (fun f vs => PySem.call f vs) := by
  refine Att.attach_callB hn hdf fun w s₀ s₁ mg mb fa o pm cd doc a vs ns G Y ho hd hcd hmg hobj hints hlen hbits hg => ?_
  have KX := hY w _ Y
  obtain ⟨fd, cs, sp, hT, nT, C, hb, hsp, hF⟩ := F w mg fa _ KX G.T.g hmg fun y e c P h1 h2 => PySem.W.tab_of G.T KX h1 h2
  exact law_callTs KX G.T.g G.T.b G.T.builtins G.T.nolimit hg hT nT C G.T.bmain hobj hints (Nat.le_trans hlen hn2) hr hF hb (fun H hH hS => hsp H a ns hlen hbits hH hS) fun H e s' => hCX w H s₁ e s'
/-! what a clause makes of an error -/
section
variable {K : PySem.W.Frag} {i : Nat} {W : WX} {D : Ends} {cls : Value} {d : Option Addr} {σ : L2.St} {H : Hp}
theorem why_at {cs : List Value} {ts : Suit} {l2 : List (List Value × Suit)} (h : PySem.W.exmAny K cls cs = some true) (q : ∀ a, H a = none → ts a cls d (outN i D) (σ.set i (some (.ref a))) H) : ∀ {l1 : List (List Value × Suit)}, (∀ p ∈ l1, PySem.W.exmAny K cls p.1 = some false) → wWhy K i W D (l1 ++ (cs, ts) :: l2) cls d σ H
  | [], _ => ⟨true, h, fun _ => q, fun z => nomatch z⟩
  | (c1, t1) :: l1, no => ⟨false, no _ List.mem_cons_self, fun z => (nomatch z), fun _ => why_at h q fun p hp => no p (List.mem_cons_of_mem _ hp)⟩
end
/-- the fields of a caught error, in a tuple -/
def tFs (K : PySem.W.Frag) (fs : List Str) : Suit := fun a cls d => tRet (tTup (fs.foldr (fun f t => tCons (tXa K a cls d f 1) t) tNil))
section
variable {K : PySem.W.Frag} {C dd a : Addr} {xs : List (Str × V)} {H : Hp} {σ : L2.St}
theorem fs_run (xf : XfC K C) (hd : H dd = some (.xd xs)) (hs : σ[1]? = some (some (.ref a))) : ∀ {fs : List Str} {vs : List V} {Q : List V → Hp → Prop}, Paired (fun f v => PySem.W.findIn K (.ref C) f = some none ∧ xs.lookup f = some v) fs vs → Q vs H → (fs.foldr (fun f t => tCons (tXa K a (.ref C) (some dd) f 1) t) tNil) σ H Q
  | _, _, _, .nil, q => q
  | _, _, _, .cons h r, q => ⟨hs, C, rfl, xf, h.1, dd, xs, _, rfl, hd, h.2, fs_run xf hd hs r q⟩
theorem fs_fin {fs : List Str} {vs : List V} {D : Ends} (xf : XfC K C) (hd : H dd = some (.xd xs)) (hs : σ[1]? = some (some (.ref a))) (p : Paired (fun f v => PySem.W.findIn K (.ref C) f = some none ∧ xs.lookup f = some v) fs vs) (small : vs.length ≤ 1000) (q : ∀ p, H p = none → D.rt (.ref p) (upd H p (.tup vs))) :
    tFs K fs a (.ref C) (some dd) D σ H := fs_run (Q := fun ys H1 => ys.length ≤ sizeLine ∧ ∀ p, H1 p = none → D.rt (.ref p) (upd H1 p (.tup ys))) xf hd hs p ⟨Nat.le_of_lt (small1000 small), q⟩
end
/-- heaps that differ in tables alone -/
theorem ext_same {H H' : Hp} (s : Same H H') : ExtN H H' := fun b o e _ => s b o e
end Hw

set_option Elab.async false
set_option linter.all false
set_option maxRecDepth 100000
set_option maxHeartbeats 4000000
namespace Hw
open PySem PySem.Spec PyProof.Rows L2 LamX He
/-! facts of a head, read by one look -/
theorem fun_of {K : PySem.W.Frag} {x q : Str} {st : Stmt} {f : Addr} {fd : FuncData} (F : FunD K x q (defArgs st) (defBody st) (defScope st) [] [] f fd) : Fun K x q st f fd := by
  obtain ⟨oc, od, dV, kV, doc, pm, an, cdv, ct, osl, e, lk, hc, dd, _⟩ := F.ex
  rcases dd with ⟨_, rfl⟩ | ⟨no, _⟩
  · exact ⟨⟨oc, od, kV, doc, pm, an, cdv, ct, osl, e, lk, hc⟩, F.kp⟩
  · exact absurd rfl no
/-- an own class of errors straight below U -/
def ownB (K : PySem.W.Frag) (C U : Addr) (tl : List Value) (nw : String) : Bool := match K.lookup C with
  | some ⟨.type t, _, .cls cd, sl⟩ => decide (t = "type") && (match cd.mro, sl.toList with
    | .ref c1 :: bm, [_, _, _, _, some (.builtin n), _] => decide (c1 = C) && (decide (n = nw) && (!cd.hasDel && (cd.hasDict && decide (bm = .ref U :: tl))))
    | _, _ => false)
  | _ => false
theorem ownB_ok {K : PySem.W.Frag} {C U : Addr} {tl : List Value} {nw : String} (h : ownB K C U tl nw = true) :
    ∃ nm q N bs cs sn sub ab col dd k0 k1 k2 k3 k5, K.lookup C = some (excClassObj nm q C N bs (mroT cs tl) true sn sub ab col dd k0 k1 k2 k3 k5 nw) := by
  unfold ownB at h
  split at h
  · rename_i t dd cd sl ho
    obtain ⟨h1, h2⟩ := ba h
    have e1 := of_decide_eq_true h1
    subst e1
    split at h2
    · rename_i c1 bm k0 k1 k2 k3 n k5 hm hs
      obtain ⟨z1, z⟩ := ba h2
      obtain ⟨z2, z⟩ := ba z
      obtain ⟨z3, z⟩ := ba z
      obtain ⟨z4, z5⟩ := ba z
      have e1 := of_decide_eq_true z1
      have e2 := of_decide_eq_true z2
      have e5 := of_decide_eq_true z5
      subst e1 e2 e5
      obtain ⟨nm, bs, mro, ns, qn, hd, sn, sub, ab, col, del⟩ := cd
      have z3' : del = false := by simpa using z3
      have z4' : hd = true := z4
      have hm' : mro = .ref c1 :: .ref U :: tl := hm
      subst z3' z4' hm'
      have e : sl = #[k0, k1, k2, k3, some (.builtin n), k5] := by
        obtain ⟨l⟩ := sl
        have hs' : l = [k0, k1, k2, k3, some (.builtin n), k5] := hs
        rw [hs']
      subst e
      exact ⟨nm, qn, ns, bs, [U], sn, sub, ab, col, dd, k0, k1, k2, k3, k5, ho⟩
    · cases h2
  · cases h
/-- all that is asked of a class of errors -/
def oneB (K : PySem.W.Frag) (e u : Str) (tl : List Value) (nw : String) (fs : List Str) : Bool :=
  ownB K (ga K e) (ga K u) tl nw && (eqO (PySem.W.findIn K (.ref (ga K e)) "__setattr__") (some (some (.builtin "object.__setattr__"))) && (decide (PySem.W.subIn K (.ref (ga K e)) (.type "BaseException") = some true) && (decide (PySem.W.typeIn K (.ref (ga K e)) = some (.type "type")) &&
    (PySem.W.keepIn K (.ref (ga K e)) && (eqO (PySem.W.findIn K (.ref (ga K e)) "__init__") (some (some (.ref (ma K (ga K e) "__init__")))) && (decide (PySem.W.typeIn K (.ref (ma K (ga K e) "__init__")) = some (.type "function")) &&
      (eqO (PySem.W.findIn K (.ref (ga K e)) "__getattribute__") (some (some (.builtin "BaseException.__getattribute__"))) && (eqO (PySem.W.findIn K (.ref (ga K e)) "__getattr__") (some none) && (PySem.W.hasDictIn K (ga K e) && fs.all fun f => eqO (PySem.W.findIn K (.ref (ga K e)) f) (some none))))))))))
structure OneE (K : PySem.W.Frag) (e : Str) (tl : List Value) (nw : String) (fs : List Str) : Prop where
  own : Own K nw tl (ga K e)
  iC : PySem.W.findIn K (.ref (ga K e)) "__init__" = some (some (.ref (ma K (ga K e) "__init__")))
  tI : PySem.W.typeIn K (.ref (ma K (ga K e) "__init__")) = some (.type "function")
  xf : XfC K (ga K e)
  nf : ∀ f ∈ fs, PySem.W.findIn K (.ref (ga K e)) f = some none
theorem oneB_ok {K : PySem.W.Frag} {e u : Str} {tl : List Value} {nw : String} {fs : List Str} (h : oneB K e u tl nw fs = true) : OneE K e tl nw fs := by
  obtain ⟨h1, h⟩ := ba h
  obtain ⟨h2, h⟩ := ba h
  obtain ⟨h3, h⟩ := ba h
  obtain ⟨h4, h⟩ := ba h
  obtain ⟨h5, h⟩ := ba h
  obtain ⟨h6, h⟩ := ba h
  obtain ⟨h7, h⟩ := ba h
  obtain ⟨h8, h⟩ := ba h
  obtain ⟨h9, h⟩ := ba h
  obtain ⟨h10, h11⟩ := ba h
  exact ⟨⟨ownB_ok h1, eqO_ok h2, of_decide_eq_true h3, of_decide_eq_true h4, h5⟩, eqO_ok h6, of_decide_eq_true h7, ⟨eqO_ok h8, eqO_ok h9, of_decide_eq_true h3, h10⟩, fun f hf => eqO_ok (List.all_eq_true.mp h11 f hf)⟩
/-- an upper class, its __init__ read off it; the built-in class above -/
def upB (K : PySem.W.Frag) (u : Str) (py ini : String) : Bool :=
  PySem.W.readsIn K (ga K u) (.type "type") && (eqO (PySem.W.specialIn K (.ref (ga K u)) "__getattribute__") (some (some (.builtin "type.__getattribute__"))) && ((match PySem.W.findCls K (.ref (ga K u)) (.type "type") "__init__" with
    | some (.val (.ref a)) => decide (a = ma K (ga K u) "__init__")
    | _ => false) && (match PySem.W.findCls K (.type py) (.type "type") "__init__" with
    | some (.val (.builtin i)) => decide (i = ini)
    | _ => false)))
structure UpE (K : PySem.W.Frag) (u : Str) (py ini : String) : Prop where
  r : ClX.CRead K (ga K u) (.type "type")
  c : ClX.CVal K (ga K u) (.type "type") "__init__" (.ref (ma K (ga K u) "__init__")) (.ref (ma K (ga K u) "__init__"))
  b : PySem.W.findCls K (.type py) (.type "type") "__init__" = some (.val (.builtin ini))
theorem upB_ok {K : PySem.W.Frag} {u : Str} {py ini : String} (h : upB K u py ini = true) : UpE K u py ini := by
  obtain ⟨h1, h⟩ := ba h
  obtain ⟨h2, h⟩ := ba h
  obtain ⟨h3, h4⟩ := ba h
  refine ⟨⟨h1, eqO_ok h2⟩, ⟨?_, rfl⟩, ?_⟩
  · split at h3
    · rename_i a e
      rw [e, of_decide_eq_true h3]
    · cases h3
  · split at h4
    · rename_i a e
      rw [e, of_decide_eq_true h4]
    · cases h4
def exmB (K : PySem.W.Frag) (e : Str) (l : List Str) (b : Bool) : Bool := decide (PySem.W.exmAny K (.ref (ga K e)) ((l.map (ga K)).map Value.ref) = some b)
theorem exmB_ok {K : PySem.W.Frag} {e : Str} {l : List Str} {b : Bool} (h : exmB K e l b = true) : PySem.W.exmAny K (.ref (ga K e)) ((l.map (ga K)).map Value.ref) = some b := of_decide_eq_true h
/-- the law's own def and its table -/
theorem law_tab {fa : List Fa} {fn : List DefD} {ts : List He.Tab} {tf : List Defn} {ex : PySem.W.Frag → Bool} {w : World} {h : Heap} {K : PySem.W.Frag} (X : K.In h) (c : SaysX fa fn ts tf ex w h K) {x : Str} {st : Stmt} {fd : FuncData} (F : Fun K x x st (ga K x) fd) (m : ((x, none) : Defn) ∈ tf) :
    ∃ (cL PL : Addr) (oc : Value) (od : Option Addr) (kV doc pm : Value) (an : Option Addr) (ct : Value) (osl : Array (Option Value)), K.lookup (ga K x) = some ⟨oc, od, .func (PySem.W.fnOf x x (defArgs st) (defBody st) (defScope st) .none kV doc pm an (.ref cL) ct), osl⟩ ∧ PySem.W.codeIn K (.ref cL) x = true ∧
      PySem.W.CodeHd h cL PL ∧ h.get? PL = some { cls := .none, data := .fields #[] } ∧ K.lookup PL = none := by
  obtain ⟨oc, od, kV, doc, pm, an, cdv, ct, osl, e, lk, hc⟩ := F.ex
  obtain ⟨cL, rfl⟩ := codeIn_ref hc
  subst e
  have ec : codeOf K (x, none) = cL := codeOf_eq (p := (x, none)) (c := cL) lk rfl
  have h1 := c.hd _ m
  have h2 := c.out _ m
  have h3 := c.empty _ m
  have e1 : cT K (x, none) = (cL, tabOf K cL) := by
    unfold cT
    rw [ec]
  rw [e1] at h1 h2 h3
  exact ⟨cL, tabOf K cL, oc, od, kV, doc, pm, an, ct, osl, lk, hc, PySem.W.codeHd_of_K X h1, h3, h2⟩
/-! the look: what the module's names reach, and the statics -/
def seen (n : Nat) (g : Addr → Option Obj) : PySem.W.Frag := frT g (cStatics :: asD g n)
def look (n : Nat) (fa : List Fa) (fn : List DefD) (tf : List Defn) (ex : PySem.W.Frag → Bool) (g : Addr → Option Obj) : AlX :=
  let K := seen n g
  (obsT fa fn [] K, ex K && tabsB g tf K)
theorem look_says {n : Nat} {fa : List Fa} {fn : List DefD} {tf : List Defn} {ex : PySem.W.Frag → Bool} {w : World} {h : Heap} (e : look n fa fn tf ex h.get? = valX fn [] w) : SaysX fa fn [] tf ex w h (seen n h.get?) := by
  have a : obsT fa fn [] (seen n h.get?) = valT fn [] w := congrArg Prod.fst e
  obtain ⟨b, t⟩ := ba (show (ex (seen n h.get?) && tabsB h.get? tf (seen n h.get?)) = true from congrArg Prod.snd e)
  have each : ∀ p ∈ tf, PySem.W.codeHdIn (seen n h.get?) (cT (seen n h.get?) p).1 (cT (seen n h.get?) p).2 = true ∧ h.get? (cT (seen n h.get?) p).2 = some { cls := .none, data := .fields #[] } := fun p hp => by
    obtain ⟨t1, t2⟩ := ba (List.all_eq_true.mp t p hp)
    refine ⟨t1, ?_⟩
    split at t2
    · rename_i o q
      rw [q, emptyTab_eq t2]
    · cases t2
  exact { t := a, more := b, hd := fun p hp => (each p hp).1, out := fun p hp => frT_none (each p hp).2 rfl, empty := fun p hp => (each p hp).2 }
def lookH (n : Nat) (fa : List Fa) (fn : List DefD) (tf : List Defn) (ex : PySem.W.Frag → Bool) : PySem.W.Hook where
  α := AlX
  obs := fun s => look n fa fn tf ex s.heap.get?
  val := fun w => valX fn [] w
  says := fun w h => ∃ K : PySem.W.Frag, K.In h ∧ SaysX fa fn [] tf ex w h K
  of := fun _ _ e => ⟨_, frT_in, look_says e⟩
  keeps := fun _ _ _ ⟨K, kin, c⟩ k => ⟨K, kin.keeps k, { t := c.t, more := c.more, hd := c.hd, out := c.out, empty := fun p hp => k _ _ (c.empty p hp) }⟩
theorem look_eq {n : Nat} {fa : List Fa} {fn : List DefD} {tf : List Defn} {ex : PySem.W.Frag → Bool} {g : Addr → Option Obj} {s : Shared} (h : ∀ a, g a = s.heap.get? a) : look n fa fn tf ex g = (lookH n fa fn tf ex).obs s := by
  have e : g = s.heap.get? := funext h
  subst e
  rfl
end Hw

set_option Elab.async false
set_option linter.all false
set_option maxRecDepth 100000
set_option maxHeartbeats 4000000
namespace Hw
open PySem PySem.Spec PyProof.Rows L2 LamX He
/-! the look over a list of addresses that is told ahead -/
def seenL (as : List Addr) (g : Addr → Option Obj) : PySem.W.Frag := frT g (cStatics :: as)
def lookL (as : List Addr) (fa : List Fa) (fn : List DefD) (tf : List Defn) (ex : PySem.W.Frag → Bool) (g : Addr → Option Obj) : AlX :=
  let K := seenL as g
  (obsT fa fn [] K, ex K && tabsB g tf K)
theorem look_saysL {as : List Addr} {fa : List Fa} {fn : List DefD} {tf : List Defn} {ex : PySem.W.Frag → Bool} {w : World} {h : Heap} (e : lookL as fa fn tf ex h.get? = valX fn [] w) : SaysX fa fn [] tf ex w h (seenL as h.get?) := by
  have a : obsT fa fn [] (seenL as h.get?) = valT fn [] w := congrArg Prod.fst e
  obtain ⟨b, t⟩ := ba (show (ex (seenL as h.get?) && tabsB h.get? tf (seenL as h.get?)) = true from congrArg Prod.snd e)
  have each : ∀ p ∈ tf, PySem.W.codeHdIn (seenL as h.get?) (cT (seenL as h.get?) p).1 (cT (seenL as h.get?) p).2 = true ∧ h.get? (cT (seenL as h.get?) p).2 = some { cls := .none, data := .fields #[] } := fun p hp => by
    obtain ⟨t1, t2⟩ := ba (List.all_eq_true.mp t p hp)
    refine ⟨t1, ?_⟩
    split at t2
    · rename_i o q
      rw [q, emptyTab_eq t2]
    · cases t2
  exact { t := a, more := b, hd := fun p hp => (each p hp).1, out := fun p hp => frT_none (each p hp).2 rfl, empty := fun p hp => (each p hp).2 }
def lookHL (as : List Addr) (fa : List Fa) (fn : List DefD) (tf : List Defn) (ex : PySem.W.Frag → Bool) : PySem.W.Hook where
  α := AlX
  obs := fun s => lookL as fa fn tf ex s.heap.get?
  val := fun w => valX fn [] w
  says := fun w h => ∃ K : PySem.W.Frag, K.In h ∧ SaysX fa fn [] tf ex w h K
  of := fun _ _ e => ⟨_, frT_in, look_saysL e⟩
  keeps := fun _ _ _ ⟨K, kin, c⟩ k => ⟨K, kin.keeps k, { t := c.t, more := c.more, hd := c.hd, out := c.out, empty := fun p hp => k _ _ (c.empty p hp) }⟩
theorem lookL_eq {as : List Addr} {fa : List Fa} {fn : List DefD} {tf : List Defn} {ex : PySem.W.Frag → Bool} {g : Addr → Option Obj} {s : Shared} (h : ∀ a, g a = s.heap.get? a) : lookL as fa fn tf ex g = (lookHL as fa fn tf ex).obs s := by
  have e : g = s.heap.get? := funext h
  subst e
  rfl
/-! a look in parts: each part is a run of its own for the kernel, so that none takes too much room -/
structure Part where
  fa : List Fa
  fn : List DefD
  ex : PySem.W.Frag → Bool
def lookP (as : List Addr) (q : Part) (g : Addr → Option Obj) : Bool × List FnW :=
  let K := seenL as g
  ((q.fa.all fun f => f.ok K) && ((q.fn.all fun d => d.ok K) && q.ex K), q.fn.map fun d => fnW K d.at_)
theorem look_parts {as : List Addr} {ps : List Part} {tf : List Defn} {g : Addr → Option Obj} {w : World} (h : ∀ q ∈ ps, lookP as q g = (true, q.fn.map DefD.val)) (ht : tabsB g tf (seenL as g) = true) :
    lookL as (ps.flatMap Part.fa) (ps.flatMap Part.fn) tf (fun K => ps.all fun q => q.ex K) g = valX (ps.flatMap Part.fn) [] w := by
  have each : ∀ q ∈ ps, (q.fa.all fun f => f.ok (seenL as g)) = true ∧ (q.fn.all fun d => d.ok (seenL as g)) = true ∧ q.ex (seenL as g) = true ∧ (q.fn.map fun d => fnW (seenL as g) d.at_) = q.fn.map DefD.val := fun q hq => by
    have e := h q hq
    have e1 : ((q.fa.all fun f => f.ok (seenL as g)) && ((q.fn.all fun d => d.ok (seenL as g)) && q.ex (seenL as g))) = true := congrArg Prod.fst e
    obtain ⟨a, b⟩ := ba e1
    obtain ⟨b, c⟩ := ba b
    exact ⟨a, b, c, congrArg Prod.snd e⟩
  have h1 : ((ps.flatMap Part.fa).all fun f => f.ok (seenL as g)) = true := List.all_eq_true.mpr fun f hf => by
    obtain ⟨q, hq, hf⟩ := List.mem_flatMap.mp hf
    exact List.all_eq_true.mp (each q hq).1 f hf
  have h2 : ((ps.flatMap Part.fn).all fun d => d.ok (seenL as g)) = true := List.all_eq_true.mpr fun f hf => by
    obtain ⟨q, hq, hf⟩ := List.mem_flatMap.mp hf
    exact List.all_eq_true.mp (each q hq).2.1 f hf
  have h3 : (ps.all fun q => q.ex (seenL as g)) = true := List.all_eq_true.mpr fun q hq => (each q hq).2.2.1
  have h4 : ((ps.flatMap Part.fn).map fun d => fnW (seenL as g) d.at_) = (ps.flatMap Part.fn).map DefD.val := by
    rw [List.map_flatMap, List.map_flatMap]
    clear h1 h2 h3 ht h
    induction ps with
    | nil => rfl
    | cons q ps ih =>
      rw [List.flatMap_cons, List.flatMap_cons, (each q List.mem_cons_self).2.2.2, ih fun p hp => each p (List.mem_cons_of_mem _ hp)]
  show (obsT (ps.flatMap Part.fa) (ps.flatMap Part.fn) [] (seenL as g), (ps.all fun q => q.ex (seenL as g)) && tabsB g tf (seenL as g)) = (valT (ps.flatMap Part.fn) [] w, true)
  rw [h3, ht]
  show ((obsD (ps.flatMap Part.fa) (ps.flatMap Part.fn) (seenL as g), []), true) = ((valD (ps.flatMap Part.fn), []), true)
  have e : obsD (ps.flatMap Part.fa) (ps.flatMap Part.fn) (seenL as g) = valD (ps.flatMap Part.fn) := by
    show (((ps.flatMap Part.fa).all fun f => f.ok (seenL as g)) && ((ps.flatMap Part.fn).all fun d => d.ok (seenL as g)), (ps.flatMap Part.fn).map fun d => fnW (seenL as g) d.at_) = (true, (ps.flatMap Part.fn).map DefD.val)
    rw [h1, h2, h4]
    rfl
  rw [e]
theorem map_parts {σ α β γ : Type} {E : Option σ} {f : σ → α} {g : σ → β} {o : σ → γ} {a : α} {b : β} {c : γ} (h : E.map (fun s => (f s, g s)) = some (a, b)) (ho : ∀ s, E = some s → o s = c) : E.map (fun s => (f s, g s, o s)) = some (a, b, c) := by
  cases E with
  | none => cases h
  | some s =>
    have e := Option.some.inj h
    have e1 : f s = a := congrArg Prod.fst e
    have e2 : g s = b := congrArg Prod.snd e
    show some (f s, g s, o s) = _
    rw [e1, e2, ho s rfl]
theorem map_at {σ β : Type} {E : Option σ} {f : σ → β} {b : β} {s : σ} (h : E.map f = some b) (e : E = some s) : f s = b := by
  rw [e] at h
  exact Option.some.inj h
end Hw

set_option Elab.async false
set_option linter.all false
set_option maxRecDepth 100000
set_option maxHeartbeats 4000000
namespace Hl
open PySem PySem.Spec PyProof.Rows L2
def keptW : List Str := ["each", "after", "with", "gives", "at", "most"]
/-- the kept words, by one look -/
def strsB : List Value → List Str → Bool
  | [], [] => true
  | .str x _ :: r, y :: q => decide (x = y) && strsB r q
  | _, _ => false
def kwB (K : PySem.W.Frag) : Bool := match PySem.W.nsIn K mainGlobals "KEPT_WORDS" with
  | some (some (.ref a)) => (match K.lookup a with
    | some o => (match o.data with
      | .seq its _ => decide (o.cls = .type "tuple") && (decide (its.size ≤ sizeLine) && strsB its.toList keptW)
      | _ => false)
    | none => false)
  | _ => false
end Hl

set_option Elab.async false
set_option linter.all false
set_option maxRecDepth 100000
set_option maxHeartbeats 0
namespace Hl
open PySem PySem.Spec PyProof.Rows L2
def topS (i : Nat) : Stmt := PySem.Challenge.pw_heedless_k17_texts_of_no_rules.main.body.getD i (.Pass ⟨0, 0, 0, 0⟩)
open PySem PySem.Spec PyProof.Rows L2 LamX He
def hd0 : He.DefD := ⟨("is_name", none), "is_name", "is_name", defArgs (topS 22), defBody (topS 22), defScope (topS 22), [], []⟩
def hd1 : He.DefD := ⟨("sign_group", none), "sign_group", "sign_group", defArgs (topS 24), defBody (topS 24), defScope (topS 24), [], []⟩
def hd2 : He.DefD := ⟨("piece_end", none), "piece_end", "piece_end", defArgs (topS 25), defBody (topS 25), defScope (topS 25), [], []⟩
def hd3 : He.DefD := ⟨("pieces_of", none), "pieces_of", "pieces_of", defArgs (topS 26), defBody (topS 26), defScope (topS 26), [], []⟩
def hd4 : He.DefD := ⟨("read_pair", none), "read_pair", "read_pair", defArgs (topS 35), defBody (topS 35), defScope (topS 35), [], []⟩
def hd5 : He.DefD := ⟨("read_pairs", none), "read_pairs", "read_pairs", defArgs (topS 36), defBody (topS 36), defScope (topS 36), [], []⟩
def hd6 : He.DefD := ⟨("read_rule", none), "read_rule", "read_rule", defArgs (topS 37), defBody (topS 37), defScope (topS 37), [], []⟩
def hd7 : He.DefD := ⟨("read_rules", none), "read_rules", "read_rules", defArgs (topS 38), defBody (topS 38), defScope (topS 38), [], []⟩
def hd8 : He.DefD := ⟨("letters_of", none), "letters_of", "letters_of", defArgs (topS 39), defBody (topS 39), defScope (topS 39), [], []⟩
def hd9 : He.DefD := ⟨("outlets_of", none), "outlets_of", "outlets_of", defArgs (topS 40), defBody (topS 40), defScope (topS 40), [], []⟩
def hd10 : He.DefD := ⟨("_law_deal", none), "_law_deal", "_law_deal", defArgs (topS 42), defBody (topS 42), defScope (topS 42), [], []⟩
def hd11 : He.DefD := ⟨("_law_pick", none), "_law_pick", "_law_pick", defArgs (topS 43), defBody (topS 43), defScope (topS 43), [], []⟩
def hd12 : He.DefD := ⟨("_law_of", none), "_law_of", "_law_of", defArgs (topS 44), defBody (topS 44), defScope (topS 44), [], []⟩
def hd13 : He.DefD := ⟨("_law_like", none), "_law_like", "_law_like", defArgs (topS 45), defBody (topS 45), defScope (topS 45), [], []⟩
def hd14 : He.DefD := ⟨("_law_names", none), "_law_names", "_law_names", defArgs (topS 46), defBody (topS 46), defScope (topS 46), [], []⟩
def hd15 : He.DefD := ⟨("_law_why", none), "_law_why", "_law_why", defArgs (topS 47), defBody (topS 47), defScope (topS 47), [], []⟩
def hd16 : He.DefD := ⟨("_law_full_rule", none), "_law_full_rule", "_law_full_rule", defArgs (topS 48), defBody (topS 48), defScope (topS 48), [], []⟩
def hd17 : He.DefD := ⟨("_law_any_rules", none), "_law_any_rules", "_law_any_rules", defArgs (topS 49), defBody (topS 49), defScope (topS 49), [], []⟩
def hd18 : He.DefD := ⟨("_law_pairs_text", none), "_law_pairs_text", "_law_pairs_text", defArgs (topS 50), defBody (topS 50), defScope (topS 50), [], []⟩
def hd19 : He.DefD := ⟨("_law_rule_text", none), "_law_rule_text", "_law_rule_text", defArgs (topS 51), defBody (topS 51), defScope (topS 51), [], []⟩
def hd20 : He.DefD := ⟨("_law_tokens", none), "_law_tokens", "_law_tokens", defArgs (topS 52), defBody (topS 52), defScope (topS 52), [], []⟩
def hd21 : He.DefD := ⟨("_law_number_good", none), "_law_number_good", "_law_number_good", defArgs (topS 53), defBody (topS 53), defScope (topS 53), [], []⟩
def hd22 : He.DefD := ⟨("_law_pairs_end", none), "_law_pairs_end", "_law_pairs_end", defArgs (topS 54), defBody (topS 54), defScope (topS 54), [], []⟩
def hd23 : He.DefD := ⟨("_law_rule_end", none), "_law_rule_end", "_law_rule_end", defArgs (topS 55), defBody (topS 55), defScope (topS 55), [], []⟩
def hd24 : He.DefD := ⟨("_law_reading", none), "_law_reading", "_law_reading", defArgs (topS 56), defBody (topS 56), defScope (topS 56), [], []⟩
def hd25 : He.DefD := ⟨("_law_bent_text", none), "_law_bent_text", "_law_bent_text", defArgs (topS 57), defBody (topS 57), defScope (topS 57), [], []⟩
def hd26 : He.DefD := ⟨("law", none), "law", "law", defArgs (topS 58), defBody (topS 58), defScope (topS 58), [], []⟩
def hd27 : He.DefD := ⟨("Reader", some "__init__"), "__init__", "Reader.__init__", defArgs (inClass (topS 27) 0), defBody (inClass (topS 27) 0), defScope (inClass (topS 27) 0), [], []⟩
def hd28 : He.DefD := ⟨("Reader", some "coming"), "coming", "Reader.coming", defArgs (inClass (topS 27) 1), defBody (inClass (topS 27) 1), defScope (inClass (topS 27) 1), [], []⟩
def hd29 : He.DefD := ⟨("Reader", some "refuse"), "refuse", "Reader.refuse", defArgs (inClass (topS 27) 2), defBody (inClass (topS 27) 2), defScope (inClass (topS 27) 2), [], []⟩
def hd30 : He.DefD := ⟨("Reader", some "one_of"), "one_of", "Reader.one_of", defArgs (inClass (topS 27) 3), defBody (inClass (topS 27) 3), defScope (inClass (topS 27) 3), [], []⟩
def hd31 : He.DefD := ⟨("Reader", some "takes"), "takes", "Reader.takes", defArgs (inClass (topS 27) 4), defBody (inClass (topS 27) 4), defScope (inClass (topS 27) 4), [], []⟩
def hd32 : He.DefD := ⟨("Reader", some "number"), "number", "Reader.number", defArgs (inClass (topS 27) 5), defBody (inClass (topS 27) 5), defScope (inClass (topS 27) 5), [], []⟩
def hd33 : He.DefD := ⟨("Reader", some "name_above"), "name_above", "Reader.name_above", defArgs (inClass (topS 27) 6), defBody (inClass (topS 27) 6), defScope (inClass (topS 27) 6), [], []⟩
def hd34 : He.DefD := ⟨("HeedError", some "__init__"), "__init__", "HeedError.__init__", defArgs (inClass (topS 1) 0), defBody (inClass (topS 1) 0), defScope (inClass (topS 1) 0), [.str "HeedError", .str ""], []⟩
def hd35 : He.DefD := ⟨("BadText", some "__init__"), "__init__", "BadText.__init__", defArgs (inClass (topS 7) 0), defBody (inClass (topS 7) 0), defScope (inClass (topS 7) 0), [], []⟩
def hd36 : He.DefD := ⟨("BadSize", some "__init__"), "__init__", "BadSize.__init__", defArgs (inClass (topS 2) 0), defBody (inClass (topS 2) 0), defScope (inClass (topS 2) 0), [], []⟩
def hex0 (K : PySem.W.Frag) : Bool := (Hw.upB K "HeedError" "ValueError" "ValueError.__init__" && (Hw.oneB K "BadText" "HeedError" Hw.tlV "ValueError.__new__" ["word", "at"] && (Hw.exmB K "BadText" ["BadName", "Taken", "NoLetter", "NoOutlet", "NoMachine", "NoWeb", "NoRun"] false && (Hw.exmB K "BadText" ["BadRow", "BadText", "BadDeed"] true && (Hw.oneB K "BadSize" "HeedError" Hw.tlV "ValueError.__new__" ["word"] && (Hw.exmB K "BadSize" ["BadName", "Taken", "NoLetter", "NoOutlet", "NoMachine", "NoWeb", "NoRun"] false && (Hw.exmB K "BadSize" ["BadRow", "BadText", "BadDeed"] false && (Hw.exmB K "BadSize" ["Unreached", "Gone", "NoStand"] false && (Hw.exmB K "BadSize" ["Heeds"] false && (Hw.exmB K "BadSize" ["NoneWaits"] false && (Hw.exmB K "BadSize" ["HeedError"] true && (kwB K && true))))))))))))
def hp0 : Hw.Part := ⟨[.glo "is_name", .glo "sign_group", .glo "piece_end", .glo "pieces_of", .glo "read_pair", .glo "read_pairs", .glo "read_rule", .glo "read_rules", .glo "letters_of", .glo "outlets_of", .glo "_law_deal", .glo "_law_pick", .glo "_law_of", .glo "_law_like", .glo "_law_names", .glo "_law_why", .glo "_law_full_rule", .glo "_law_any_rules", .glo "_law_pairs_text", .glo "_law_rule_text", .glo "_law_tokens", .glo "_law_number_good", .glo "_law_pairs_end", .glo "_law_rule_end", .glo "_law_reading", .glo "_law_bent_text", .glo "law", .free "isinstance", .free "list", .free "tuple", .free "len", .free "all", .free "range", .free "bool", .free "int", .free "str", .free "abs", .free "min", .free "max", .free "sum", .free "zip", .free "sorted", .int "LETTERS" 3, .int "NAME_SIGNS" 6, .int "RULES" 12, .int "EVERY" 6, .int "AFTER" 12, .int "MANY" 4, .int "TIMES" 6, .cls "Reader", .glo "Reader", .noat "Reader" "pieces", .noat "Reader" "taken", .mkr "Reader", .meth "Reader" "__init__", .meth "Reader" "coming", .meth "Reader" "refuse", .meth "Reader" "one_of", .meth "Reader" "takes", .meth "Reader" "number", .meth "Reader" "name_above", .glo "BadName", .glo "Taken", .glo "NoLetter", .glo "NoOutlet", .glo "NoMachine", .glo "NoWeb", .glo "NoRun", .glo "BadRow", .glo "BadText", .glo "BadDeed", .glo "Unreached", .glo "Gone", .glo "NoStand", .glo "Heeds", .glo "NoneWaits", .glo "HeedError", .glo "Lacking", .free "ValueError", .glo "BadSize"], [hd0, hd1, hd2, hd3, hd4, hd5, hd6, hd7, hd8, hd9, hd10, hd11, hd12, hd13, hd14, hd15, hd16, hd17, hd18, hd19, hd20, hd21, hd22, hd23, hd24, hd25, hd26, hd27, hd28, hd29, hd30, hd31, hd32, hd33, hd34, hd35, hd36], hex0⟩
def has : List Addr := ([3, 6, 4, 32, 52, 71, 90, 109, 128, 147, 166, 185, 204, 224, 244, 263, 282, 301, 320, 339, 358, 365, 372, 379, 386, 443, 448, 455, 462, 469, 476, 481, 486, 493, 500, 507, 512, 517, 524, 529, 534, 539, 546, 553, 560, 567, 574, 579, 586, 591, 0, 31, 51, 70, 89, 108, 127, 146, 165, 184, 203, 223, 243, 262, 281, 300, 319, 338, 357, 364, 371, 378, 385, 442, 454, 461, 468, 475, 480, 485, 492, 499, 506, 511, 516, 523, 528, 533, 538, 545, 552, 559, 566, 573, 578, 585, 590, 29, 30, 33] : List Addr) ++ ([49, 50, 68, 69, 87, 88, 106, 107, 125, 126, 144, 145, 163, 164, 182, 183, 201, 202, 221, 222, 225, 241, 242, 260, 261, 279, 280, 298, 299, 317, 318, 336, 337, 355, 356, 361, 362, 363, 366, 367, 368, 369, 370, 373, 374, 375, 376, 377, 380, 381, 382, 383, 384, 400, 407, 414, 421, 428, 433, 440, 441, 444, 445, 449, 450, 451, 452, 453, 456, 457, 458, 459, 460, 463, 464, 465, 466, 467, 470, 471, 472, 473, 474, 477, 478, 479, 482, 483, 484, 487, 488, 489, 490, 491, 494, 495, 496, 497, 498, 501] : List Addr) ++ ([502, 503, 504, 505, 508, 509, 510, 513, 514, 515, 518, 519, 520, 521, 522, 525, 526, 527, 530, 531, 532, 535, 536, 537, 540, 541, 542, 543, 544, 547, 548, 549, 550, 551, 554, 555, 556, 557, 558, 561, 562, 563, 564, 565, 568, 569, 570, 571, 572, 575, 576, 577, 580, 581, 582, 583, 584, 587, 588, 589, 28, 22, 48, 67, 86, 105, 124, 143, 162, 181, 200, 220, 214, 240, 259, 278, 297, 316, 335, 354, 399, 406, 413, 420, 427, 432, 439, 23, 24, 25, 26, 27, 43, 44, 45, 46, 47, 62, 63, 64] : List Addr) ++ ([65, 66, 81, 82, 83, 84, 85, 100, 101, 102, 103, 104, 119, 120, 121, 122, 123, 138, 139, 140, 141, 142, 157, 158, 159, 160, 161, 176, 177, 178, 179, 180, 195, 196, 197, 198, 199, 215, 216, 217, 218, 219, 235, 236, 237, 238, 239, 254, 255, 256, 257, 258, 273, 274, 275, 276, 277, 292, 293, 294, 295, 296, 311, 312, 313, 314, 315, 330, 331, 332, 333, 334, 349, 350, 351, 352, 353, 394, 395, 396, 397, 398, 401, 402, 403, 404, 405, 408, 409, 410, 411, 412, 415, 416, 417, 418, 419, 422, 423, 424] : List Addr) ++ ([425, 426, 429, 430, 431, 434, 435, 436, 437, 438] : List Addr)
def hps : List Hw.Part := [hp0]
def hfa : List He.Fa := [.glo "is_name", .glo "sign_group", .glo "piece_end", .glo "pieces_of", .glo "read_pair", .glo "read_pairs", .glo "read_rule", .glo "read_rules", .glo "letters_of", .glo "outlets_of", .glo "_law_deal", .glo "_law_pick", .glo "_law_of", .glo "_law_like", .glo "_law_names", .glo "_law_why", .glo "_law_full_rule", .glo "_law_any_rules", .glo "_law_pairs_text", .glo "_law_rule_text", .glo "_law_tokens", .glo "_law_number_good", .glo "_law_pairs_end", .glo "_law_rule_end", .glo "_law_reading", .glo "_law_bent_text", .glo "law", .free "isinstance", .free "list", .free "tuple", .free "len", .free "all", .free "range", .free "bool", .free "int", .free "str", .free "abs", .free "min", .free "max", .free "sum", .free "zip", .free "sorted", .int "LETTERS" 3, .int "NAME_SIGNS" 6, .int "RULES" 12, .int "EVERY" 6, .int "AFTER" 12, .int "MANY" 4, .int "TIMES" 6, .cls "Reader", .glo "Reader", .noat "Reader" "pieces", .noat "Reader" "taken", .mkr "Reader", .meth "Reader" "__init__", .meth "Reader" "coming", .meth "Reader" "refuse", .meth "Reader" "one_of", .meth "Reader" "takes", .meth "Reader" "number", .meth "Reader" "name_above", .glo "BadName", .glo "Taken", .glo "NoLetter", .glo "NoOutlet", .glo "NoMachine", .glo "NoWeb", .glo "NoRun", .glo "BadRow", .glo "BadText", .glo "BadDeed", .glo "Unreached", .glo "Gone", .glo "NoStand", .glo "Heeds", .glo "NoneWaits", .glo "HeedError", .glo "Lacking", .free "ValueError", .glo "BadSize"]
def hfn : List He.DefD := [hd0, hd1, hd2, hd3, hd4, hd5, hd6, hd7, hd8, hd9, hd10, hd11, hd12, hd13, hd14, hd15, hd16, hd17, hd18, hd19, hd20, hd21, hd22, hd23, hd24, hd25, hd26, hd27, hd28, hd29, hd30, hd31, hd32, hd33, hd34, hd35, hd36]
def hex (K : PySem.W.Frag) : Bool := (hex0 K && true)
abbrev hR : PySem.W.OpenRow := PySem.W.OpenLaw.row PySem.Challenge.rw_heedless_k17_texts_of_no_rules
abbrev hk : PySem.W.Hook := Hw.lookHL has hfa hfn [("law", none)] hex
def hob (s : PySem.W.SharedT) : He.AlX := Hw.lookL has hfa hfn [("law", none)] hex (HandSHeadRun.getT s)
theorem hob_eq (s : PySem.W.SharedT) : hob s = hk.obs s.abs := Hw.lookL_eq (HandSHeadRun.getT_eq s)
def hloose : List Str := (["HeedError", "BadSize", "BadName", "BadRow", "Unreached", "Heeds", "BadText", "Gone", "BadDeed", "Taken", "Lacking", "NoStand", "NoLetter", "NoOutlet", "NoMachine", "NoWeb", "NoRun", "NoneWaits", "LETTERS", "NAME_SIGNS"] : List Str) ++ (["is_name", "sign_group", "piece_end", "pieces_of", "Reader", "RULES", "EVERY", "AFTER", "MANY", "TIMES", "KEPT_WORDS", "read_pair", "read_pairs", "read_rule", "read_rules", "letters_of", "outlets_of", "_law_deal", "_law_pick", "_law_of"] : List Str) ++ (["_law_like", "_law_names", "_law_why", "_law_full_rule", "_law_any_rules", "_law_pairs_text", "_law_rule_text", "_law_tokens", "_law_number_good", "_law_pairs_end", "_law_rule_end", "_law_reading", "_law_bent_text"] : List Str)
noncomputable def hE (w : World) (os : OsState) : Option PySem.W.SharedT := HandSHeadRun.endF (HandSHeadRun.stepQ (HandSHeadRun.denQ HandSHeadRun.tabQ) hR.prog w) 20000 hR.prog w os
theorem hr0 (w : World) (os : OsState) : (hE w os).map (fun s => (HandSHeadRun.looksF hR.prog (PySem.W.boot_heap w.params) s.abs, HandSHeadRun.seenQ (PySem.W.view hR.prog [58]) hloose (importedModules hR.prog.main.body) (fun s => PySem.W.xlAt (PySem.W.view hR.prog [58]) [] s && PySem.W.recOk hR.toRowW.records s) s.abs)) = some (true, PySem.W.openGood (PySem.W.view hR.prog [58]) hloose) := by
  kernel_rfl
theorem hrp0 (w : World) (os : OsState) : (hE w os).map (fun s => Hw.lookP has hp0 (HandSHeadRun.getT s)) = some (true, hp0.fn.map He.DefD.val) := by
  kernel_rfl
theorem hrt (w : World) (os : OsState) : (hE w os).map (fun s => He.tabsB (HandSHeadRun.getT s) [("law", none)] (Hw.seenL has (HandSHeadRun.getT s))) = some true := by
  kernel_rfl
theorem hoe (w : World) (os : OsState) (s : PySem.W.SharedT) (e : hE w os = some s) : hob s = hk.val w := by
  have h : ∀ q ∈ hps, Hw.lookP has q (HandSHeadRun.getT s) = (true, q.fn.map He.DefD.val) := fun q hq => by
    unfold hps at hq
    simp only [List.mem_cons, List.not_mem_nil, or_false] at hq
    rcases hq with rfl
    · have z := Hw.map_at (hrp0 w os) e
      exact z
  have ht : He.tabsB (HandSHeadRun.getT s) [("law", none)] (Hw.seenL has (HandSHeadRun.getT s)) = true := by
    have z := Hw.map_at (hrt w os) e
    exact z
  have L := Hw.look_parts (w := w) (ps := hps) (tf := [("law", none)]) h ht
  have e1 : hps.flatMap Hw.Part.fa = hfa := by rfl
  have e2 : hps.flatMap Hw.Part.fn = hfn := by rfl
  have e3 : (fun K => hps.all fun q => q.ex K) = hex := by rfl
  rw [e1, e2, e3] at L
  show Hw.lookL has hfa hfn [("law", none)] hex (HandSHeadRun.getT s) = He.valX hfn [] w
  exact L
theorem hrun (w : World) : HandSHeadRun.RunEq hR (PySem.W.view hR.prog [58]) hk hob 20000 hloose w := by
  intro os
  have z := Hw.map_parts (o := hob) (hr0 w os) (hoe w os)
  unfold hE at z
  exact z
end Hl

set_option Elab.async false
set_option linter.all false
set_option maxRecDepth 100000
set_option maxHeartbeats 4000000
/-! Sets of texts: what they hold, add, sorted. -/
namespace Stx
open PySem PySem.Spec PyProof.Rows L2 PySem.Froz

/-- a member's text -/
def txOf (e : Int × Value) : Str := match e.2 with
  | .str k _ => k
  | _ => default
theorem ris_tail {ep : Nat} {es1 : Array (Int × Value)} {t2 : SetTable} {wd : Bool} (r : Ris t2.place.toList) : Ris (tailTx ep es1 t2 wd).2.2.place.toList := by
  unfold tailTx
  split
  · exact relayAll_ris _ _ _
  · exact r
theorem led_tail {ep : Nat} {es1 : Array (Int × Value)} {t2 : SetTable} {wd : Bool} : (tailTx ep es1 t2 wd).2.2.led = t2.led := by
  unfold tailTx
  split
  · exact relayAll_led _ _ _
  · rfl
theorem perm_tail {ep : Nat} {es1 : Array (Int × Value)} {t2 : SetTable} {wd : Bool} : (tailTx ep es1 t2 wd).1.toList.Perm es1.toList := by
  unfold tailTx
  split
  · exact relayAll_perm _ _ _
  · exact List.Perm.refl _
theorem ris_add {D : SD} (h : Int) (v : Value) (r : Ris D.2.2.place.toList) : Ris (addTx h v D).2.2.place.toList := by
  unfold addTx
  refine ris_tail ?_
  split
  · exact layNew_ris _ _ _ _ r
  · exact layNew_ris _ _ _ _ r
theorem led_add {D : SD} (h : Int) (v : Value) : (addTx h v D).2.2.led = D.2.2.led := by
  unfold addTx
  rw [led_tail]
  split
  · exact layNew_led _ _ _ _
  · exact layNew_led _ _ _ _
theorem perm_add {D : SD} (h : Int) (v : Value) : (addTx h v D).1.toList.Perm ((h, v) :: D.1.toList) := by
  unfold addTx
  refine perm_tail.trans ?_
  have p := layNew_perm D.2.2 D.1 h v
  rw [Array.toList_push] at p
  exact p.trans (List.perm_append_singleton _ _)

/-- the texts l, each once, are the set at a; its table can be walked -/
def SetS (P : Program) (w : World) (h : Heap) (a : Addr) (l : List Str) : Prop :=
  ∃ D : SD, h.get? a = some (sObj "set" D) ∧ TxOk P w D l ∧ (D.1.toList.map txOf).Perm l ∧ l.Nodup ∧ l.length < scanBound ∧ Ris D.2.2.place.toList ∧ (w.params.followText "set-order" = true ∨ D.2.2.led = true)
def SetSO (P : Program) (w : World) (a : Addr) (l : List Str) : HO := .ext fun h => SetS P w h a l
/-- l with k -/
def addS (k : Str) (l : List Str) : List Str := if k ∈ l then l else k :: l
theorem addS_len (k : Str) (l : List Str) : (addS k l).length ≤ l.length + 1 := by
  unfold addS
  split
  · exact Nat.le_succ _
  · exact Nat.le_refl _
theorem mem_addS {k x : Str} {l : List Str} : x ∈ addS k l ↔ x = k ∨ x ∈ l := by
  unfold addS
  split
  · rename_i h
    exact ⟨.inr, fun z => z.elim (fun e => e ▸ h) id⟩
  · exact List.mem_cons
theorem nodup_addS {k : Str} {l : List Str} (h : l.Nodup) : (addS k l).Nodup := by
  unfold addS
  split
  · exact h
  · rename_i n
    exact List.nodup_cons.mpr ⟨n, h⟩

section
variable {P : Program} {w : World} {A : Around} {E : Value → Shared → Prop} {s : Shared} {a : Addr} {l : List Str}
theorem SetS.at {h h' : Heap} (R : SetS P w h a l) (k : ∀ o, h.get? a = some o → h'.get? a = some o) : SetS P w h' a l := by
  obtain ⟨D, ho, r⟩ := R
  exact ⟨D, k _ ho, r⟩
theorem setSO_new {H : Hp} {h : Heap} (R : SetS P w h a l) : ObjOk P w H h a (SetSO P w a l) := by
  obtain ⟨D, ho, r⟩ := id R
  exact ⟨R, ⟨_, ho⟩, fun h1 h2 p k => SetS.at p k⟩
theorem setS_fresh {h : Heap} : SetS P w (h.push { cls := .type "set", dict := none, data := .set #[] 0 (.fresh 0 0 (!w.params.followText "set-order")) }) h.objs.size [] :=
  ⟨(#[], 0, .fresh 0 0 (!w.params.followText "set-order")), Heap.get?_push_size _ rfl, .nil (by rfl), List.Perm.refl _, List.nodup_nil, by decide, List.Pairwise.nil, by
    show _ ∨ (!w.params.followText "set-order") = true
    cases w.params.followText "set-order"
    · exact .inr rfl
    · exact .inl rfl⟩

/-- a text that is there already -/
theorem again_x {T : String} {D : SD} {k : Str} {u : Tok} {Q : Bool → Shared → Prop} (ho : s.heap.get? a = some (sObj T D)) (F : TxOk P w D l) (hk : k ∈ l) (hb : l.length < scanBound) (h : Q false s) :
    wpAny (model P w) A (setAddHashed a (.str k u) (hashStr w k)) Q E s := by
  obtain ⟨es, ep, t⟩ := D
  have hd : (sObj T (es, ep, t)).data = .set es ep t := rfl
  have hsz : es.size = l.length := F.sz
  have hb0 : es.size < scanBound := by rw [hsz]; exact hb
  obtain ⟨e, he, z⟩ := (F.mem k).mp hk
  have hkey : (PySem.strKind P w).is k (.str k u) = true := is_str k u
  unfold setAddHashed setAddHashedIn
  refine wpAny_holding (wpAny_bind (wpAny_setState_of ho hd F.fit ?_))
  dsimp only
  rw [byScan_of rfl hb0 F.el]
  simp only [↓reduceIte]
  unfold setAddByScan
  refine wpAny_bind (wpAny_bind (wpAny_rule (wpAny_bind (wpAny_setScan_of (knd := PySem.strKind P w) (k := k) hkey ho hd F.fit F.el ?_))))
  cases hf : List.findIdx? (fun e => (PySem.strKind P w).is k e.2) es.toList with
  | none =>
    have c := List.findIdx?_eq_none_iff.mp hf e he
    rw [z] at c
    cases c
  | some j => exact wpAny_pure (wpAny_pure h)
theorem code_add {k : Str} {u : Tok} {Q : Value → Shared → Prop} (R : SetS P w s.heap a l) (room : l.length + 1 < scanBound)
    (hQ : ∀ h', Heap.SameBut a s.heap h' → SetS P w h' a (addS k l) → Q .none { s with heap := h', toks := s.toks + 1 }) :
    wpAny (model P w) A (call (.builtin "set.add") [.ref a, .str k u]) Q E s := by
  obtain ⟨D, ho, G, pm, nd, hb, ri, ld⟩ := R
  have hT : s.TypeIs (.ref a) "set" := ⟨_, ho, rfl⟩
  refine wpAny_call_entry F.slot_set_add hT F.entry_set_add ?_ (F.args_set_add_2 _ _)
  unfold Builtin.«set.add» Builtin.Frozenset.oneOther
  simp only [List.isEmpty_nil, bind_assoc]
  unfold Builtin.Frozenset.addrOf setAdd
  refine wpAny_bind (wpAny_pure ?_)
  try dsimp only
  refine wpAny_bind (wpAny_pure ?_)
  try dsimp only
  refine wpAny_bind (wpAny_holding (wpAny_bind ((PySem.strKind P w).pyHash (is_str k u) ?_)))
  by_cases hk : k ∈ l
  · refine again_x (s := { s with toks := s.toks + 1 }) ho G hk hb (show wpAny _ _ (ret Value.none) _ _ _ from wpAny_pure ⟨_, rfl, hQ s.heap (Heap.SameBut.refl a s.heap) ?_⟩)
    unfold addS
    rw [if_pos hk]
    exact ⟨D, ho, G, pm, nd, hb, ri, ld⟩
  · refine add_x (s := { s with toks := s.toks + 1 }) ho G hk room (show wpAny _ _ (ret Value.none) _ _ _ from wpAny_pure ⟨_, rfl, hQ _ (Heap.SameBut.update _ a _) ?_⟩)
    unfold addS
    rw [if_neg hk]
    exact ⟨_, get_upd _ ho rfl, add_ok u G, ((perm_add _ _).map txOf).trans (pm.cons k), List.nodup_cons.mpr ⟨hk, nd⟩, room, ris_add _ _ ri, ld.imp id fun z => by rw [led_add]; exact z⟩

theorem strs_of_mem : ∀ (vs : List Value), (∀ v ∈ vs, ∃ k t, v = Value.str k t) → StrsAre vs (vs.map fun v => txOf (0, v))
  | [], _ => .nil
  | v :: vs, h => by
    obtain ⟨k, t, rfl⟩ := h v List.mem_cons_self
    exact .cons k t (strs_of_mem vs fun u hu => h u (List.mem_cons_of_mem _ hu))
/-- sorted(a) -/
theorem code_sorted {Q : Value → Shared → Prop} (R : SetS P w s.heap a l) (hh : A.handled = none) (h64 : l.length < 64)
    (hQ : ∀ s' p (out : Array Value) (c : Nat) (ss : List Str), (∀ b o, s.heap.get? b = some o → s'.heap.get? b = some o) → s'.gens = s.gens → s'.os = s.os → s.heap.objs.size ≤ p →
      s'.heap.get? p = some (seqObj "list" out c) → StrsAre out.toList ss → ss.Perm l → sortedS ss = true → Q (.ref p) s') :
    wpAny (model P w) A (call (.builtin "sorted") [.ref a]) Q E s := by
  obtain ⟨⟨es, ep, t⟩, ho, F, pm, nd, hb, ri, ld⟩ := R
  have hsz : es.size = l.length := F.sz
  have hb0 : es.size < scanBound := by rw [hsz]; exact hb
  refine Calls.call_function_entry kind_sorted plain_sorted entry_sorted (args_sorted1 _) ?_
  unfold Builtin.«sorted»
  refine wpAny_bind (m := checkCount "sorted" 1 1 _) (wpAny_pure ?_)
  refine wpAny_bind (collect_set (A := A.in1) hh ⟨_, ho, rfl, rfl⟩ F.fit hb0 ri ld fun s1 vs k1 hz g1 o1 pv => ?_)
  have hv : ∀ v ∈ vs, ∃ k t, v = Value.str k t := fun v hv => by
    obtain ⟨e, he, q⟩ := List.mem_map.mp (pv.mem_iff.mp hv)
    obtain ⟨⟨k, h1, _⟩, _⟩ := F.el e he
    obtain ⟨tk, e1⟩ := Value.isStrOf_shape (x := k) (v := e.2) h1
    exact ⟨k, tk, q ▸ e1⟩
  have hS := strs_of_mem vs hv
  have pk : (vs.map fun v => txOf (0, v)).Perm l := by
    have q := pv.map fun v => txOf (0, v)
    rw [List.map_map] at q
    exact q.trans pm
  have hvl : vs.length < 64 := by
    have q := pk.length_eq
    rw [List.length_map] at q
    omega
  refine wpAny_bind (wpAny_newList ?_ (by rw [sizeLine_eq]; omega))
  have hoL : (s1.heap.push (seqObj "list" vs.toArray 0)).get? s1.heap.objs.size = some (seqObj "list" vs.toArray 0) := Heap.get?_push_size _ rfl
  refine wpAny_bind (wpAny_holding (wpAny_call_entry slot_list_sort ⟨_, hoL, rfl⟩ entry_list_sort
    (list_sort_treeK strKind_oneLt hoL hS.keysOf (fun v₁ v₂ rest e => keyKind_strs (by rw [← e]; exact hS)) hvl fun st' hp hs => ⟨_, rfl, ?_⟩) (args_list_sort _)))
  obtain ⟨ss, g2, g3, g4⟩ := sorted_out_str hS hp hs
  obtain ⟨c, hc⟩ := sortedHeap_at (vs := vs) (out := (arrOf st').map (·.2)) hoL
  refine wpAny_pure ⟨_, rfl, hQ _ s1.heap.objs.size _ c ss (fun b u e => ?_) g1 o1 hz hc g2 (g3.trans pk) g4⟩
  have q := k1 b u e
  have hlt := Heap.lt_size q
  show (sortedHeap (s1.heap.push (seqObj "list" vs.toArray 0)) s1.heap.objs.size vs _).get? b = some u
  rw [sortedHeap_old (Nat.ne_of_lt hlt) (by rw [size_push']; exact Nat.lt_succ_of_lt hlt)]
  exact Heap.get?_push_of_some _ q
end

section
variable {X : Cx} {pins : List (Addr × Obj)} {σ : L2.St} {H : Hp} {s : Shared}
theorem setSO_get {a : Addr} {l : List Str} (I : Inv X pins σ H s) (ha : H a = some (SetSO X.prog X.w a l)) : SetS X.prog X.w s.heap a l := (I.hok a _ ha).1
theorem addS_ok {E : Value → Shared → Prop} {D : Addr} {l : List Str} {k : Str} {v : Value} {Q : Value → Shared → Prop} (I : Inv X pins σ H s) (hD : H D = some (SetSO X.prog X.w D l)) (room : l.length + 1 < scanBound) (r : RelV (.str k) v)
    (h : ∀ s', Inv X pins σ (upd H D (SetSO X.prog X.w D (addS k l))) s' → Q .none s') : wpAny (model X.prog X.w) X.A (call (.builtin "set.add") [.ref D, v]) Q E s := by
  obtain ⟨u, rfl⟩ := r
  refine code_add (setSO_get I hD) room fun h' sb new => ?_
  have he : ∃ o, h'.get? D = some o := let ⟨d, ho, _⟩ := new; ⟨_, ho⟩
  exact h _ (I.write (e := D) (t' := s.toks + 1) (by rw [hD]; trivial) (.inl rfl) (fun b u hb hu => (sb.2 b hb).trans hu) he (setSO_new new))
/-- sorted(a), a a set of fewer than 64 texts -/
def rSortedTx (P : Program) (w : World) : List V → Hp → VK → Prop := fun vs H Q => ∃ (a : Addr) (l : List Str), vs = [.ref a] ∧ H a = some (SetSO P w a l) ∧ l.length < 64 ∧
  ∀ ss p, ss.Perm l → sortedS ss = true → H p = none → Q (.ref p) (upd H p (.lst (ss.map V.str)))
theorem cr_sortedTx (hc : X.calm = true) : CallR X (.builtin "sorted") (rSortedTx X.prog X.w) := by
  intro pins s σ H vs us Q I r h
  obtain ⟨a, l, rfl, ha, h64, q⟩ := h
  rw [Vals.ref1 r]
  refine code_sorted (setSO_get I ha) (I.ok.hd hc) h64 fun s' p out c ss k g o hp hg hS pm so => ?_
  have hlen : (ss.map V.str).length ≤ sizeLine := by rw [List.length_map, pm.length_eq, sizeLine_eq]; omega
  have hn : H p = none := I.hok.fresh hp
  have J : Inv X pins σ (upd H p (.lst (ss.map V.str))) { s with heap := s'.heap, gens := s'.gens, drawn := s'.drawn, toks := s'.toks } :=
    I.call (ch := []) (Un.laid k hp hn) (I.hok.laid k hp ⟨hlen, out.toList, c, vals_of_strs hS, hg⟩) (by rw [g]; exact I.bare) (fun _ z => nomatch z)
  have e : s' = { s with heap := s'.heap, gens := s'.gens, drawn := s'.drawn, toks := s'.toks } := by
    cases s'
    cases s
    cases o
    rfl
  rw [e]
  exact ⟨.ref p, _, J, rfl, q ss p pm so hn⟩
end
end Stx

set_option Elab.async false
set_option linter.all false
set_option maxRecDepth 100000
set_option maxHeartbeats 4000000
/-! Set comprehensions of texts, of as many clauses as one likes. -/
namespace Stx
open PySem PySem.Spec PyProof.Rows L2

/-- one turn of a clause: m is what a turn does behind its tests -/
def turnS (p : Pos) (t : Expr) (ifs : List Expr) (it : Value) (env : Env) (m : Sem Unit) (c : Code) : Sem Fin := do
  standAt p
  match ← pyNext it with
  | none => pure (.done .next)
  | some v =>
    letOwnedTupleGo t it v
    assign t env v
    let mut ok := true
    for c in ifs do
      if ok then ok ← isTrue c env (eval c env)
    if ok then m
    again c
/-- the add at the end -/
def addM (elt : Expr) (acc : Value) (env : Env) : Sem Unit := do
  let v ← eval elt env
  standAt elt.pos
  let _ ← call (.builtin "set.add") [acc, v]
/-- the next clause -/
def nextM (e i1 : Expr) (i : Nat) (acc : Value) (env : Env) : Sem Unit := do
  let x ← eval i1 env
  standAt i1.pos
  let x ← foldedSetIterable i1 env x
  let _ ← runOwn (.compStart e i (← holding [x] (pyIter x)) acc env) env

/-- what is left of the clauses reaches Nx, from these slots and this heap -/
abbrev TC := L2.St → Hp → (Hp → Prop) → Prop
def tAddS (P : Program) (w : World) (D : Addr) (te : TE) : TC := fun σ H Nx => te σ H fun y H1 => ∃ k l, y = .str k ∧ H1 D = some (SetSO P w D l) ∧ l.length + 1 < scanBound ∧ Nx (upd H1 D (SetSO P w D (addS k l)))
/-- the turns of a clause's loop: from the slots σ without vs -/
def Trn (J : It) (g : TG) (tt : TT) (tc : TC) (vs : List Nat) (σ : L2.St) (W : Nat → Nat → Hp → Prop) (Nx : Hp → Prop) : Prop := ∀ j k H, W j k H →
  (J.stop j H ∧ Nx H) ∨ (J.go j H ∧ ∃ N1 : Hp → Prop, (∀ H', N1 H' → ∃ k', k' < k ∧ W (j + 1) k' H') ∧ ∀ x H', J.yld j H x H' → g x (wipe σ vs) H' fun σ3 H5 => wipe σ3 vs = wipe σ vs ∧ tt σ3 H5 fun b H6 => if b = true then tc σ3 H6 N1 else N1 H6)
def tFor (wi : TI) (g : TG) (tt : TT) (tc : TC) (vs : List Nat) : TC := fun σ H Nx => wi σ H fun J H1 => ∃ W : Nat → Nat → Hp → Prop, (∃ m, W 0 m H1) ∧ Trn J g tt tc vs σ W Nx
/-- {elt for g in wi if tt ..} -/
def tScT (P : Program) (w : World) (wi : TI) (g : TG) (tt : TT) (tc : Addr → TC) (vs : List Nat) : TE := fun σ H Q => wi σ H fun J H1 => ∀ D, H1 D = none → ∃ W : Nat → Nat → Hp → Prop, (∃ m, W 0 m (upd H1 D (SetSO P w D []))) ∧ Trn J g tt (tc D) vs σ W fun H' => Q (.ref D) H'

/-- m does what tc says, the slots vs forgotten -/
def PC (Y : Cx) (vs : List Nat) (m : Sem Unit) (tc : TC) : Prop := ∀ pins s σ H Nx, Inv Y pins σ H s → tc σ H Nx → wpAny (model Y.prog Y.w) Y.A m (fun _ s' => ∃ H', Inv Y pins (wipe σ vs) H' s' ∧ Nx H') (fun _ _ => False) s
/-- the end of a clause's loop -/
abbrev LoopR (Y : Cx) (pins : List (Addr × Obj)) (σ : L2.St) (Nx : Hp → Prop) : Result → Shared → Prop := fun r s' => match r with
  | .ok _ => ∃ H', Inv Y pins σ H' s' ∧ Nx H'
  | .error _ => False

theorem wipe_keeps {σ σ' : L2.St} {vs vs2 : List Nat} (h : wipe σ' vs = wipe σ vs) (hv : ∀ j ∈ vs2, j ∈ vs) {j : Nat} {v : V} (e : (wipe σ vs)[j]? = some (some v)) : (wipe σ' vs2)[j]? = some (some v) := by
  rw [← h] at e
  obtain ⟨e1, e2⟩ := wipe_some e
  rw [wipe_out fun z => e2 (hv j z)]
  exact e1
section
variable {Y : Cx} {pins : List (Addr × Obj)} {σ : L2.St} {s : Shared} {H : Hp} {e : Expr} {i : Nat} {acc : Value} {p : Pos} {t : Expr} {ifs : List Expr} {m : Sem Unit} {it : Addr} {fp : List Addr} {tn : Nat → Heap → Prop} {J : It} {g : TG} {tt : TT} {tc : TC} {vs vs2 : List Nat} {Nx : Hp → Prop}
theorem loop_ok {elt : Expr} {gens : List Comprehension} {scope : Scope} {pos : Pos} (hE : e = .SetComp elt gens scope pos) (hc : Y.calm = true) (hx : Y.xe = fun _ _ => False) (heq : compTurn e i (.ref it) acc Y.env = turnS p t ifs (.ref it) Y.env m (.compLoop e i (.ref it) acc Y.env))
    (T : Turn Y.prog Y.w Y.K t J fp it tn) (pg : PG Y t g) (pt : PTs Y ifs tt) (pb : PC Y vs2 m tc) (hv : ∀ j ∈ vs2, j ∈ vs)
    (I : Inv Y pins (wipe σ vs) H s) (st : tn 0 s.heap) (nf : ∀ b ∈ fp, FpOk Y pins H b) {W : Nat → Nat → Hp → Prop} {m0 : Nat} (w0 : W 0 m0 H) (turn : Trn J g tt tc vs σ W Nx) :
    codeAny (model Y.prog Y.w) Y.A (.compLoop e i (.ref it) acc Y.env) (LoopR Y pins (wipe σ vs) Nx) s := by
  subst hE
  refine codeAny_loop rfl (fun n s' => ∃ j H', Inv Y pins (wipe σ vs) H' s' ∧ tn j s'.heap ∧ (∀ b ∈ fp, H' b = none) ∧ W j n H') (fun n s5 hI => ?_) m0 ⟨0, H, I, st, fun b hb => (nf b hb).1, w0⟩
  obtain ⟨j, H5, I5, st5, n5, w5⟩ := hI
  have stat : ∀ {H' : Hp}, (∀ b ∈ fp, H' b = none) → ∀ b ∈ fp, FpOk Y pins H' b := fun hn b hb => ⟨hn b hb, (nf b hb).2⟩
  show wpAny _ _ ((compTurn (.SetComp elt gens scope pos) i (.ref it) acc Y.env).onRaise (fun x => do noteFrame x Y.env; theTreesLotGoes x)) _ _ s5
  refine wpAny_noted ?_
  rw [heq]
  unfold turnS
  refine wpAny_bind (wpAny_standAt (wpAny_bind ?_))
  rcases turn j n H5 w5 with ⟨stop, nx⟩ | ⟨go, N1, hN, step⟩
  · refine thnF (T.done Y rfl rfl rfl hc j pins s5 _ H5 (fun _ _ => False) I5 (stat n5) st5 stop) fun r s6 ⟨hr, I6⟩ => ?_
    subst hr
    exact wpAny_pure ⟨H5, I6, nx⟩
  · refine thnF (T.item Y rfl rfl rfl hc j pins s5 _ H5 (fun _ _ => False) I5 (stat n5) st5 go) fun r s6 ⟨u, hr, h6⟩ => ?_
    subst hr
    refine wpAny_bind (thnF h6 fun _ s7 ⟨x, H7, I7, r7, y7, st7, n7⟩ => ?_)
    have I7' := I7.pinned (stat n7) (T.obj _ _ st7)
    have pg' := pg.run _ s7 _ H7 x u _ I7' r7 (step x H7 y7)
    rw [hx] at pg'
    refine wpAny_bind (thnF pg' fun _ s8 ⟨σ8, H8, I8, hw8, q8⟩ => ?_)
    have pt' := pt.run _ s8 σ8 H8 _ I8 q8
    rw [hx] at pt'
    refine wpAny_bind (thnF pt' fun b s9 ⟨H9, I9, q9⟩ => ?_)
    have fin : ∀ {σ9 : L2.St} {s' : Shared} {H' : Hp}, Inv Y (pins ++ pinsAt fp s7.heap) σ9 H' s' → (wipe σ vs).length = σ9.length → (∀ (j : Nat) v, (wipe σ vs)[j]? = some (some v) → σ9[j]? = some (some v)) → N1 H' →
        ∃ m, m < n ∧ ∃ j H', Inv Y pins (wipe σ vs) H' s' ∧ tn j s'.heap ∧ (∀ b ∈ fp, H' b = none) ∧ W j m H' := fun {σ9 s' H'} I' hl hk nx => by
      obtain ⟨m', hm, w'⟩ := hN H' nx
      have pin' : ∀ b ∈ fp, ∀ o, s7.heap.get? b = some o → s'.heap.get? b = some o ∧ H' b = none := fun b hb o e =>
        let z := I'.pin (b, o) (List.mem_append_right _ (List.mem_append_right _ (mem_pinsAt hb e)))
        ⟨z.1, z.2.1⟩
      refine ⟨m', hm, j + 1, H', I'.unpinned.weak hl hk, T.keep _ _ _ st7 fun b hb o e => (pin' b hb o e).1, fun b hb => ?_, w'⟩
      obtain ⟨o, e, _⟩ := T.obj _ _ st7 b hb
      exact (pin' b hb o e).2
    have hl8 : (wipe σ vs).length = σ8.length := by rw [← hw8, wipe_length]
    cases b with
    | false => exact wpAny_pure ⟨rfl, fin I9 hl8 (fun j v e => wipe_keeps (vs2 := []) hw8 (fun _ z => nomatch z) e) q9⟩
    | true =>
      refine wpAny_bind (thnF (pb _ s9 σ8 H9 _ I9 q9) fun _ s10 ⟨H10, I10, q10⟩ => ?_)
      exact wpAny_pure ⟨rfl, fin I10 (hl8.trans (wipe_length _ _).symm) (fun j v e => wipe_keeps hw8 hv e) q10⟩
theorem pc_add {elt : Expr} {te : TE} {D : Addr} (hx : Y.xe = fun _ _ => False) (he : PE Y elt te) : PC Y [] (addM elt (.ref D) Y.env) (tAddS Y.prog Y.w D te) := by
  intro pins s σ H Nx I h
  have he' := he.run pins s σ H _ I h
  rw [hx] at he'
  unfold addM
  refine wpAny_bind (thnF he' fun z s1 ⟨y, H1, I1, r1, k, l, ey, hD, room, nx⟩ => ?_)
  subst ey
  exact wpAny_bind (wpAny_standAt (wpAny_bind (addS_ok I1 hD room r1 fun s2 I2 => wpAny_pure ⟨_, I2, nx⟩)))
theorem pc_for {elt : Expr} {gens : List Comprehension} {scope : Scope} {pos : Pos} {i1 : Expr} {wi : TI} (hE : e = .SetComp elt gens scope pos) (hc : Y.calm = true) (hx : Y.xe = fun _ _ => False) (hs : ∀ x, foldedSetIterable i1 Y.env x = pure x)
    (hst : ∀ it s R, codeAny (model Y.prog Y.w) Y.A (.compLoop e i it acc Y.env) R s → wpAny (model Y.prog Y.w) Y.A (pyIter it) (fun it' s' => codeAny (model Y.prog Y.w) Y.A (.compLoop e i it' acc Y.env) R s') (notedBy (model Y.prog Y.w) Y.A Y.env fun x s' => R (.error x) s') s → codeAny (model Y.prog Y.w) Y.A (.compStart e i it acc Y.env) R s)
    (heq : ∀ it, compTurn e i it acc Y.env = turnS p t ifs it Y.env m (.compLoop e i it acc Y.env))
    (hi : PI Y t i1 wi) (pg : PG Y t g) (pt : PTs Y ifs tt) (pb : PC Y vs2 m tc) (hv : ∀ j ∈ vs2, j ∈ vs) : PC Y vs (nextM e i1 i acc Y.env) (tFor wi g tt tc vs) := by
  intro pins s σ H Nx I h
  have hi' := hi.run pins s σ H _ I h
  rw [hx] at hi'
  unfold nextM
  refine wpAny_bind (thnF hi' fun x s1 h1 => ?_)
  refine wpAny_bind (wpAny_standAt (wpAny_bind (wpAny_of_eq (hs x) (wpAny_bind (wpAny_holding (thnF h1 fun itv s2 h2 => ?_))))))
  obtain ⟨it, fp, tn, J, H2, ei, I2, T, st, nf, W, ⟨m0, w0⟩, turn⟩ := h2
  subst ei
  refine wpAny_bind (wpAny_runOwn ?_)
  rw [Around.mark_none]
  have loop : codeAny (model Y.prog Y.w) Y.A (.compLoop e i (.ref it) acc Y.env) (LoopR Y pins (wipe σ vs) Nx) s2 :=
    loop_ok hE hc hx (heq _) T pg pt pb hv (I2.weak (wipe_length _ _) (fun j v e => (wipe_some e).1)) st nf w0 turn
  refine codeAny_mono (hst _ s2 _ loop (T.self Y.A 0 _ _ _ st loop)) fun r s' hr => ?_
  cases r with
  | ok f => exact wpAny_pure hr
  | error e => exact hr.elim
end
/-- the second clause's start -/
theorem start1 {prog : Program} {w : World} {A : Around} {R : Result → Shared → Prop} {s : Shared} {elt t0 i0 t1 i1 : Expr} {ifs0 ifs1 : List Expr} {scope : Scope} {pos : Pos} {it acc : Value} {env : Env}
    (h0 : codeAny (model prog w) A (.compLoop (.SetComp elt [⟨t0, i0, ifs0, 0⟩, ⟨t1, i1, ifs1, 0⟩] scope pos) 1 it acc env) R s)
    (h : wpAny (model prog w) A (pyIter it) (fun it' s' => codeAny (model prog w) A (.compLoop (.SetComp elt [⟨t0, i0, ifs0, 0⟩, ⟨t1, i1, ifs1, 0⟩] scope pos) 1 it' acc env) R s') (notedBy (model prog w) A env fun x s' => R (.error x) s') s) :
    codeAny (model prog w) A (.compStart (.SetComp elt [⟨t0, i0, ifs0, 0⟩, ⟨t1, i1, ifs1, 0⟩] scope pos) 1 it acc env) R s := by
  refine codeAny_of_tree ?_
  show wpAny _ _ ((compStart (.SetComp elt [⟨t0, i0, ifs0, 0⟩, ⟨t1, i1, ifs1, 0⟩] scope pos) 1 it acc env).onRaise (fun x => do noteFrame x env; standAt theWindowsPlace)) _ _ s
  refine wpAny_notedAt ?_
  unfold compStart
  show wpAny _ _ (ask >>= _) _ _ s
  refine wpAny_bind (wpAny_askSetting (wpAny_ite ?_))
  split
  · first
      | exact wpAny_bind (wpAny_pure (wpAny_pure (And.intro rfl h0)))
      | exact wpAny_pure (And.intro rfl h0)
  · refine wpAny_bind (wpAny_rule ?_)
    show wpAny _ _ (standAt i1.pos >>= _) _ _ s
    exact wpAny_bind (wpAny_standAt (wpAny_bind (wpAny_mono h (fun it' s' h' => wpAny_pure (And.intro rfl h')) fun _ _ x => x)))
theorem turn1 (elt t0 i0 : Expr) (ifs0 : List Expr) (scope : Scope) (pos : Pos) (it acc : Value) (env : Env) :
    compTurn (.SetComp elt [⟨t0, i0, ifs0, 0⟩] scope pos) 0 it acc env = turnS i0.pos t0 ifs0 it env (addM elt acc env) (.compLoop (.SetComp elt [⟨t0, i0, ifs0, 0⟩] scope pos) 0 it acc env) := by rfl
theorem turn20 (elt t0 i0 t1 i1 : Expr) (ifs0 ifs1 : List Expr) (scope : Scope) (pos : Pos) (it acc : Value) (env : Env) :
    compTurn (.SetComp elt [⟨t0, i0, ifs0, 0⟩, ⟨t1, i1, ifs1, 0⟩] scope pos) 0 it acc env = turnS i0.pos t0 ifs0 it env (nextM (.SetComp elt [⟨t0, i0, ifs0, 0⟩, ⟨t1, i1, ifs1, 0⟩] scope pos) i1 1 acc env) (.compLoop (.SetComp elt [⟨t0, i0, ifs0, 0⟩, ⟨t1, i1, ifs1, 0⟩] scope pos) 0 it acc env) := by
  unfold turnS nextM
  refine Eq.trans (b := (do
      standAt i0.pos
      match ← pyNext it with
      | none => pure (.done .next)
      | some v =>
        letOwnedTupleGo t0 it v
        assign t0 env v
        let mut ok := true
        for c in ifs0 do
          if ok then ok ← isTrue c env (eval c env)
        if ok then
          let x ← eval i1 env
          standAt i1.pos
          let x ← foldedSetIterable i1 env x
          let _ ← runOwn (.compStart (.SetComp elt [⟨t0, i0, ifs0, 0⟩, ⟨t1, i1, ifs1, 0⟩] scope pos) 1 (← holding [x] (pyIter x)) acc env) env
        again (.compLoop (.SetComp elt [⟨t0, i0, ifs0, 0⟩, ⟨t1, i1, ifs1, 0⟩] scope pos) 0 it acc env))) (by rfl) ?_
  simp only [bind_assoc, pure_bind]
theorem turn21 (elt t0 i0 t1 i1 : Expr) (ifs0 ifs1 : List Expr) (scope : Scope) (pos : Pos) (it acc : Value) (env : Env) :
    compTurn (.SetComp elt [⟨t0, i0, ifs0, 0⟩, ⟨t1, i1, ifs1, 0⟩] scope pos) 1 it acc env = turnS i1.pos t1 ifs1 it env (addM elt acc env) (.compLoop (.SetComp elt [⟨t0, i0, ifs0, 0⟩, ⟨t1, i1, ifs1, 0⟩] scope pos) 1 it acc env) := by rfl
section
variable {X : Cx}
theorem sc_all {pins : List (Addr × Obj)} {s : Shared} {σ : L2.St} {H : Hp} {Q : VK} {elt tg iter : Expr} {ifs : List Expr} {gs : List Comprehension} {scope : Scope} {own : List (PySem.Str × Nat)} {pos pos' : Pos} {wi : TI} {g : TG} {tt : TT} {tc : Addr → TC} {m : Addr → Env → Sem Unit} {vs2 : List Nat}
    (hc : X.calm = true) (hN : X.N.Nodup) (I : Inv X pins σ H s) (hi : PI X tg iter wi) (ok : BlkOk X.N X.env.scope scope own) (hv : ∀ j ∈ vs2, j ∈ own.map (·.2))
    (hg : ∀ (s : Shared) (H : Hp) (C : Addr) (cl : List (PySem.Str × Addr)) (fp : List Addr), PG (X.blk s H scope (compEnvC scope cl C X.env) fp) tg g) (ht : ∀ (s : Shared) (H : Hp) (C : Addr) (cl : List (PySem.Str × Addr)) (fp : List Addr), PTs (X.blk s H scope (compEnvC scope cl C X.env) fp) ifs tt)
    (hb : ∀ (D : Addr) (s : Shared) (H : Hp) (C : Addr) (cl : List (PySem.Str × Addr)) (fp : List Addr), PC (X.blk s H scope (compEnvC scope cl C X.env) fp) vs2 (m D (compEnvC scope cl C X.env)) (tc D))
    (heq : ∀ D it env, compTurn (.SetComp elt (⟨tg, iter, ifs, 0⟩ :: gs) scope pos) 0 it (.ref D) env = turnS iter.pos tg ifs it env (m D env) (.compLoop (.SetComp elt (⟨tg, iter, ifs, 0⟩ :: gs) scope pos) 0 it (.ref D) env))
    (hs : ∀ x, foldedSetIterable iter X.env x = pure x) (h : tScT X.prog X.w wi g tt tc (own.map (·.2)) σ H Q) :
    wpAny (model X.prog X.w) X.A (comprehension (.SetComp elt (⟨tg, iter, ifs, 0⟩ :: gs) scope pos) scope X.env pos' (newSet (.type "set")) false (eval iter X.env) none) (EP X pins σ Q) X.xe s := by
  have hfree : ∀ y ∈ scope.names, y.2 = .free → ∃ c, X.env.cells.lookup y.1 = some c := fun y hy e => by
    rcases ok.free y hy e with k | k
    · exact I.ok.has _ (.inl k)
    · exact I.ok.has _ (.inr k)
  refine wpAny_comprehension_free (use := none) rfl hs (closure_ok hfree) ok.kind (fun y hy e => by rw [ok.uniq y hy, e])
    (thn (hi.run pins s σ H _ I h) fun xv s1 hx => thn hx fun itv s2 h2 => ?_)
  obtain ⟨it, fp, tn, J, H2, e, I2, T, st2, f2, q⟩ := h2
  subst e
  refine PpSet.newSet_ok (newEnv_comp ?_)
  have hDn : H2 s2.heap.objs.size = none := I2.hok.fresh (Nat.le_refl _)
  obtain ⟨W, ⟨m0, w0⟩, turn⟩ := q _ hDn
  have I3 : Inv X pins σ (upd H2 s2.heap.objs.size (SetSO X.prog X.w s2.heap.objs.size [])) { s2 with heap := s2.heap.push { cls := .type "set", dict := none, data := .set #[] 0 (.fresh 0 0 (!X.w.params.followText "set-order")) } } :=
    I2.laid (t' := s2.toks) (fun b o e => Heap.get?_push_of_some _ e) (Nat.le_refl _) (setSO_new setS_fresh)
  generalize hD : s2.heap.objs.size = D at *
  have f3 : ∀ b ∈ fp, FpOk X pins (upd H2 D (SetSO X.prog X.w D [])) b ∧ b < (s2.heap.push ({ cls := .type "set", dict := none, data := .set #[] 0 (.fresh 0 0 (!X.w.params.followText "set-order")) } : Obj)).objs.size := fun b hb => by
    obtain ⟨o, e, _⟩ := T.obj _ _ st2 b hb
    have hlt := Heap.lt_size e
    refine ⟨⟨?_, (f2 b hb).2⟩, by rw [Heap.size_push]; exact Nat.lt_succ_of_lt hlt⟩
    rw [upd_ne (by rw [← hD]; exact Nat.ne_of_lt hlt)]
    exact (f2 b hb).1
  have st3 : tn 0 (s2.heap.push ({ cls := .type "set", dict := none, data := .set #[] 0 (.fresh 0 0 (!X.w.params.followText "set-order")) } : Obj)) := T.keep _ _ _ st2 fun b _ o e => Heap.get?_push_of_some _ e
  generalize hs3 : ({ s2 with heap := s2.heap.push { cls := .type "set", dict := none, data := .set #[] 0 (.fresh 0 0 (!X.w.params.followText "set-order")) } } : Shared) = s3 at *
  have e3 : s3.heap = s2.heap.push { cls := .type "set", dict := none, data := .set #[] 0 (.fresh 0 0 (!X.w.params.followText "set-order")) } := by rw [← hs3]
  rw [← e3] at f3 st3
  have I4 := block_start I3 ok hN f3
  have pg := hg s3 (upd H2 D (SetSO X.prog X.w D [])) s3.heap.objs.size (cellsFrom (s3.heap.objs.size + 1) scope.names (cloFrom X.env.cells scope.names [])) fp
  have pt := ht s3 (upd H2 D (SetSO X.prog X.w D [])) s3.heap.objs.size (cellsFrom (s3.heap.objs.size + 1) scope.names (cloFrom X.env.cells scope.names [])) fp
  have pb := hb D s3 (upd H2 D (SetSO X.prog X.w D [])) s3.heap.objs.size (cellsFrom (s3.heap.objs.size + 1) scope.names (cloFrom X.env.cells scope.names [])) fp
  show codeAny _ _ (.compStart (.SetComp elt (⟨tg, iter, ifs, 0⟩ :: gs) scope pos) 0 (.ref it) (.ref D) (compEnvC scope (cellsFrom (s3.heap.objs.size + 1) scope.names (cloFrom X.env.cells scope.names [])) s3.heap.objs.size X.env)) (compPost (model X.prog X.w) X.A X.xe none (EP X pins σ Q) (.ref D) s3.heap.objs.size) { s3 with heap := pushCells (s3.heap.push { cls := .type "dict", data := .dict #[] }) scope.names }
  generalize hce : compEnvC scope (cellsFrom (s3.heap.objs.size + 1) scope.names (cloFrom X.env.cells scope.names [])) s3.heap.objs.size X.env = ce at I4 pg pt pb ⊢
  have cL : ce.locals = s3.heap.objs.size := by subst hce; rfl
  generalize hs4 : ({ s3 with heap := pushCells (s3.heap.push { cls := .type "dict", data := .dict #[] }) scope.names } : Shared) = s4 at I4 ⊢
  have st4 : tn 0 s4.heap := T.keep _ _ _ st3 fun b _ o e => by rw [← hs4]; exact pushCells_keeps _ _ _ _ (Heap.get?_push_of_some _ e)
  have nf : ∀ b ∈ fp, FpOk (X.blk s3 (upd H2 D (SetSO X.prog X.w D [])) scope ce fp) [] (upd H2 D (SetSO X.prog X.w D [])) b := fun b hb =>
    ⟨(f3 b hb).1.1, (I4.ok.exf b hb).1, I4.ok.exfs b hb, .inl hb, fun x c e => (I4.ok.exf b hb).2 x c e, fun p hp => absurd (show p ∈ ([] : List (Addr × Obj)) ++ [] from hp) (by simp)⟩
  have loop := loop_ok rfl (Y := X.blk s3 (upd H2 D (SetSO X.prog X.w D [])) scope ce fp) (pins := []) (acc := .ref D) hc rfl (heq D (.ref it) ce) T pg pt pb hv I4 st4 nf w0 turn
  have all := PpSet.codeAny_compStart_set loop (T.self X.A 0 _ _ _ st4 loop)
  refine codeAny_mono all fun r s6 hr => ?_
  cases r with
  | error e => exact hr.elim
  | ok f =>
    obtain ⟨H5, I6, qq⟩ := hr
    have I7 : Inv X pins σ H5 s6 := I3.call' (ch := fp) I6.os I6.base I6.hok I6.bare fun b hb => ⟨(f3 b hb).1.2.2.2.1, (f3 b hb).1.2.1, (f3 b hb).1.2.2.2.2.1, (f3 b hb).1.2.2.2.2.2⟩
    have nC : H5 s3.heap.objs.size = none := by
      have z : H5 ce.locals = none := I6.free
      rw [cL] at z
      exact z
    obtain ⟨m, hn, _⟩ := I6.loc
    have hn : s6.heap.Ns ce.locals m := hn
    rw [cL] at hn
    obtain ⟨f0, f1, f2, f3, f4, f5⟩ := I3.fpOk (Nat.le_refl _) nC
    exact ⟨m, hn, fun h'' sb => ⟨.ref D, H5, I7.turned (t' := s6.toks) (fun b o hb e => (sb.2 b hb).trans e) f0 f1 f3 f4 f5, rfl, qq⟩⟩
/-- {elt for tg in iter if ..} -/
theorem pe_scT {elt tg iter : Expr} {ifs : List Expr} {scope : Scope} {own : List (PySem.Str × Nat)} {pos : Pos} {wi : TI} {g : TG} {tt : TT} {te : TE} (hc : X.calm = true) (hN : X.N.Nodup) (hi : PI X tg iter wi) (ok : BlkOk X.N X.env.scope scope own)
    (hg : ∀ (s : Shared) (H : Hp) (C : Addr) (cl : List (PySem.Str × Addr)) (fp : List Addr), PG (X.blk s H scope (compEnvC scope cl C X.env) fp) tg g) (ht : ∀ (s : Shared) (H : Hp) (C : Addr) (cl : List (PySem.Str × Addr)) (fp : List Addr), PTs (X.blk s H scope (compEnvC scope cl C X.env) fp) ifs tt)
    (he : ∀ (s : Shared) (H : Hp) (C : Addr) (cl : List (PySem.Str × Addr)) (fp : List Addr), PE (X.blk s H scope (compEnvC scope cl C X.env) fp) elt te) (hs : ∀ x, foldedSetIterable iter X.env x = pure x := by intro _; rfl) :
    PE X (.SetComp elt [⟨tg, iter, ifs, 0⟩] scope pos) (tScT X.prog X.w wi g tt (fun D => tAddS X.prog X.w D te) (own.map (·.2))) := by
  refine ⟨fun pins s σ H Q I h => ?_⟩
  rw [PpSet.eval_SetComp]
  exact sc_all hc hN I hi ok (vs2 := []) (fun _ z => nomatch z) hg ht (fun D s H C cl fp => pc_add rfl (he s H C cl fp)) (fun D it env => turn1 ..) hs h
/-- {elt for tg in iter if .. for tg1 in iter1 if ..} -/
theorem pe_scT2 {elt tg iter tg1 iter1 : Expr} {ifs ifs1 : List Expr} {scope : Scope} {own : List (PySem.Str × Nat)} {vs1 : List Nat} {pos : Pos} {wi wi1 : TI} {g g1 : TG} {tt tt1 : TT} {te : TE} (hc : X.calm = true) (hN : X.N.Nodup) (hi : PI X tg iter wi) (ok : BlkOk X.N X.env.scope scope own) (hv : ∀ j ∈ vs1, j ∈ own.map (·.2))
    (hg : ∀ (s : Shared) (H : Hp) (C : Addr) (cl : List (PySem.Str × Addr)) (fp : List Addr), PG (X.blk s H scope (compEnvC scope cl C X.env) fp) tg g) (ht : ∀ (s : Shared) (H : Hp) (C : Addr) (cl : List (PySem.Str × Addr)) (fp : List Addr), PTs (X.blk s H scope (compEnvC scope cl C X.env) fp) ifs tt)
    (hi1 : ∀ (s : Shared) (H : Hp) (C : Addr) (cl : List (PySem.Str × Addr)) (fp : List Addr), PI (X.blk s H scope (compEnvC scope cl C X.env) fp) tg1 iter1 wi1)
    (hg1 : ∀ (s : Shared) (H : Hp) (C : Addr) (cl : List (PySem.Str × Addr)) (fp : List Addr), PG (X.blk s H scope (compEnvC scope cl C X.env) fp) tg1 g1) (ht1 : ∀ (s : Shared) (H : Hp) (C : Addr) (cl : List (PySem.Str × Addr)) (fp : List Addr), PTs (X.blk s H scope (compEnvC scope cl C X.env) fp) ifs1 tt1)
    (he : ∀ (s : Shared) (H : Hp) (C : Addr) (cl : List (PySem.Str × Addr)) (fp : List Addr), PE (X.blk s H scope (compEnvC scope cl C X.env) fp) elt te) (hs : ∀ x, foldedSetIterable iter X.env x = pure x := by intro _; rfl) (hs1 : ∀ env x, foldedSetIterable iter1 env x = pure x := by intro _ _; rfl) :
    PE X (.SetComp elt [⟨tg, iter, ifs, 0⟩, ⟨tg1, iter1, ifs1, 0⟩] scope pos) (tScT X.prog X.w wi g tt (fun D => tFor wi1 g1 tt1 (tAddS X.prog X.w D te) vs1) (own.map (·.2))) := by
  refine ⟨fun pins s σ H Q I h => ?_⟩
  rw [PpSet.eval_SetComp]
  exact sc_all hc hN I hi ok hv hg ht (fun D s H C cl fp => pc_for (Y := X.blk s H scope (compEnvC scope cl C X.env) fp) (vs2 := []) rfl hc rfl (hs1 _) (fun it s R => start1) (fun it => turn21 ..) (hi1 s H C cl fp) (hg1 s H C cl fp) (ht1 s H C cl fp) (pc_add rfl (he s H C cl fp)) (fun _ z => nomatch z)) (fun D it env => turn20 ..) hs h
end
end Stx

set_option Elab.async false
set_option linter.all false
set_option maxRecDepth 100000
set_option maxHeartbeats 4000000
/-! dict(xs) of a tuple of pairs. -/
namespace Stx
open PySem PySem.Spec PyProof.Rows L2
section
variable {X : Cx}
theorem pairs2 {pins : List (Addr × Obj)} {σ : L2.St} {H : Hp} {s : Shared} (I : Inv X pins σ H s) : ∀ {ps : List Addr} {kvs : List (Key × V)}, Paired (fun p kv => SqT X.K H p [kV kv.1, kv.2]) ps kvs →
    ∃ (pv : List (Value × Value)) (prs : List (Key × Value)), KV kvs prs ∧ pv.length = ps.length ∧ prs.length = ps.length ∧
      ∀ (j : Nat) (k v : Value), pv[j]? = some (k, v) → ∃ (b : Addr) (key : Key), ps[j]? = some b ∧ s.heap.IsTuple b #[k, v] ∧ prs[j]? = some (key, v) ∧ keyIs key k = true
  | _, _, .nil => ⟨[], [], .nil, rfl, rfl, fun j k v e => by simp at e⟩
  | _, _, .cons (a := p) (b := kv) h t => by
    obtain ⟨pv, prs, r, l1, l2, hp⟩ := pairs2 I t
    obtain ⟨its, rv, ⟨o, ho, hc, n, hd⟩, _⟩ := I.tuple h
    obtain ⟨u, y, ei, ru, ry⟩ := vals2 rv
    subst ei
    refine ⟨(u, y) :: pv, (kv.1, y) :: prs, .cons ⟨rfl, ry⟩ r, by rw [List.length_cons, List.length_cons, l1], by rw [List.length_cons, List.length_cons, l2], fun j k v e => ?_⟩
    cases j with
    | zero =>
      have e' : (u, y) = (k, v) := Option.some.inj e
      cases e'
      exact ⟨p, kv.1, rfl, ⟨o, ho, hc, n, hd⟩, rfl, kV_is (P := X.prog) (w := X.w) ru⟩
    | succ j =>
      obtain ⟨b, key, e1, e2, e3, e4⟩ := hp j k v (by simpa using e)
      exact ⟨b, key, by simpa using e1, e2, by simpa using e3, e4⟩
/-- dict(xs), xs a tuple (without a dict of its own) of pairs -/
def rDictT (K : PySem.W.Frag) : List V → Hp → VK → Prop := fun xs H Q => ∃ (a : Addr) (o : Obj) (ps : List Addr) (kvs : List (Key × V)), xs = [.ref a] ∧ o.dict = none ∧ H a = some (.frz o (.tup (ps.map V.ref))) ∧ Paired (fun p kv => SqT K H p [kV kv.1, kv.2]) ps kvs ∧
  ∀ p, H p = none → Q (.ref p) (upd H p (.dK (mergeK [] kvs)))
theorem cr_dictT (hc : X.calm = true) : CallR X (.type "dict") (rDictT X.K) := by
  intro pins s σ H xs us Q I r q
  obtain ⟨a, o, ps, kvs, rfl, hn, ha, hp, q⟩ := q
  rw [Vals.ref1 r]
  obtain ⟨ho, hz, its, rv, ⟨o', ho', hcl, n, hdat⟩⟩ := I.hok a _ ha
  rw [ho] at ho'
  cases ho'
  have ei := refs_at rv
  subst ei
  rw [List.length_map] at hz
  obtain ⟨pv, prs, rel, l1, l2, hpr⟩ := pairs2 I hp
  refine PySem.call_dict_pairs (knd := mixKind X.prog X.w) (kvs := prs) (PairArg.tuple a (ps.map Value.ref).toArray (fun j => (ps[j]?).getD 0) pv) (I.ok.hd hc) ⟨⟨o, n, ho, hcl, hn, hdat⟩, by simp [l1], fun j k v e => ?_⟩ ⟨by rw [l1, l2], fun j k v e => ?_⟩ (by rw [l1]; exact hz) fun h' tk hd' k => ?_
  · obtain ⟨b, key, e1, e2, _⟩ := hpr j k v e
    exact ⟨by simp [e1], .inl (by simp only [e1, Option.getD_some]; exact e2)⟩
  · obtain ⟨b, key, _, _, e3, e4⟩ := hpr j k v e
    exact ⟨key, e3, e4⟩
  · have hm : (s.heap.objs.size == sysModules) = false := beq_eq_false_iff_ne.mpr (Nat.ne_of_gt I.big)
    have hlen : (mergeK [] kvs).length ≤ sizeLine := by
      refine Nat.le_trans (length_mergeK kvs []) ?_
      rw [List.length_nil, Nat.zero_add, rel.length, l2]
      exact hz
    exact ⟨.ref s.heap.objs.size, upd H s.heap.objs.size (.dK (mergeK [] kvs)), I.laid (t' := tk) (fun b o e => k b o (fun z => nomatch z) e) (Nat.le_refl _) (show ObjOk X.prog X.w _ _ _ (.dK (mergeK [] kvs)) from ⟨hlen, hm, merged [] prs, KV.merge rel .nil, hd'⟩), rfl, q _ (I.hok.fresh (Nat.le_refl _))⟩
end
end Stx

set_option Elab.async false
set_option linter.all false
set_option maxRecDepth 100000
set_option maxHeartbeats 4000000
/-! The turns of a set comprehension over a list, over a tuple that it leaves as they are. -/
namespace Stx
open PySem PySem.Spec PyProof.Rows L2
theorem trn_list {K : PySem.W.Frag} {a : Addr} {xs : List V} {g : TG} {tt : TT} {tc : TC} {vs : List Nat} {σ : L2.St} {H1 : Hp} {Nx : Hp → Prop} (Pv : Nat → Hp → Prop) (h0 : Pv 0 H1) (hl : ∀ i H, i ≤ xs.length → Pv i H → SqL K H a xs)
    (hs : ∀ i x H, xs[i]? = some x → Pv i H → g x (wipe σ vs) H fun σ2 H2 => wipe σ2 vs = wipe σ vs ∧ tt σ2 H2 fun b H3 => if b = true then tc σ2 H3 (Pv (i + 1)) else Pv (i + 1) H3) (hd : ∀ H, Pv xs.length H → Nx H) :
    ∃ W : Nat → Nat → Hp → Prop, (∃ m, W 0 m H1) ∧ Trn (Itl K a) g tt tc vs σ W Nx := by
  refine ⟨fun i m H => m + i = xs.length ∧ Pv i H, ⟨xs.length, rfl, h0⟩, ?_⟩
  rintro i m H ⟨e, p⟩
  have q := hl i H (by omega) p
  match m, e with
  | 0, e =>
    have e' : i = xs.length := by omega
    exact .inl ⟨⟨xs, q, by omega⟩, hd H (e' ▸ p)⟩
  | m + 1, e =>
    have hi : i < xs.length := by omega
    refine .inr ⟨⟨xs, xs[i], q, by simp [hi]⟩, Pv (i + 1), fun H' p' => ⟨m, Nat.lt_succ_self m, by omega, p'⟩, fun x H' ⟨e1, y⟩ => ?_⟩
    subst e1
    exact hs i x _ (y xs q) p
theorem trn_tup {K : PySem.W.Frag} {a : Addr} {xs : List V} {g : TG} {tt : TT} {tc : TC} {vs : List Nat} {σ : L2.St} {H1 : Hp} {Nx : Hp → Prop} (Pv : Nat → Hp → Prop) (h0 : Pv 0 H1) (hl : ∀ i H, i ≤ xs.length → Pv i H → SqT K H a xs)
    (hs : ∀ i x H, xs[i]? = some x → Pv i H → g x (wipe σ vs) H fun σ2 H2 => wipe σ2 vs = wipe σ vs ∧ tt σ2 H2 fun b H3 => if b = true then tc σ2 H3 (Pv (i + 1)) else Pv (i + 1) H3) (hd : ∀ H, Pv xs.length H → Nx H) :
    ∃ W : Nat → Nat → Hp → Prop, (∃ m, W 0 m H1) ∧ Trn (Itt K a) g tt tc vs σ W Nx := by
  refine ⟨fun i m H => m + i = xs.length ∧ Pv i H, ⟨xs.length, rfl, h0⟩, ?_⟩
  rintro i m H ⟨e, p⟩
  have q := hl i H (by omega) p
  match m, e with
  | 0, e =>
    have e' : i = xs.length := by omega
    exact .inl ⟨⟨xs, q, by omega⟩, hd H (e' ▸ p)⟩
  | m + 1, e =>
    have hi : i < xs.length := by omega
    refine .inr ⟨⟨xs, xs[i], q, by simp [hi]⟩, Pv (i + 1), fun H' p' => ⟨m, Nat.lt_succ_self m, by omega, p'⟩, fun x H' ⟨e1, y⟩ => ?_⟩
    subst e1
    exact hs i x _ (y xs q) p
end Stx

set_option Elab.async false
set_option linter.all false
set_option maxRecDepth 100000
set_option maxHeartbeats 4000000
namespace Tk
open PySem
/-! a text cut into pieces -/
def grp (c : Nat) : Nat := if 97 ≤ c ∧ c ≤ 122 then 2 else if 48 ≤ c ∧ c ≤ 57 then 1 else 0
def run (g : Nat) (s : List Nat) : Nat := if g = 0 then 0 else (s.takeWhile fun c => grp c == g).length
def pcs : Nat → Nat → List Nat → List (Nat × List Nat)
  | 0, at', _ => [(at', [])]
  | _ + 1, at', [] => [(at', [])]
  | n + 1, at', c :: s =>
    if c = 32 then pcs n (at' + 1 + run (grp c) s) (s.drop (run (grp c) s))
    else (at', c :: s.take (run (grp c) s)) :: pcs n (at' + 1 + run (grp c) s) (s.drop (run (grp c) s))
theorem run_le (g : Nat) (s : List Nat) : run g s ≤ s.length := by
  unfold run
  split
  · exact Nat.zero_le _
  · exact (List.takeWhile_sublist _).length_le
/-- the words of a text, whatever its places -/
def Wd (s : List Nat) (ws : List (List Nat)) : Prop := ∀ n at', s.length ≤ n → (pcs n at' s).map (·.2) = ws ++ [[]]
theorem Wd.nil : Wd [] [] := fun n at' _ => by cases n <;> rfl
theorem Wd.sp {s : List Nat} {ws : List (List Nat)} (h : Wd s ws) : Wd (32 :: s) ws := fun n at' hl => by
  cases n with
  | zero => cases hl
  | succ n =>
    have e : run (grp 32) s = 0 := rfl
    show (if 32 = 32 then _ else _ : List (Nat × List Nat)).map _ = _
    rw [if_pos rfl, e]
    exact h n _ (by simpa using hl)
theorem Wd.mark {c : Nat} {s : List Nat} {ws : List (List Nat)} (h : Wd s ws) (hc : grp c = 0) (h3 : c ≠ 32) : Wd (c :: s) ([c] :: ws) := fun n at' hl => by
  cases n with
  | zero => cases hl
  | succ n =>
    have e : run (grp c) s = 0 := by rw [hc]; rfl
    show (if c = 32 then _ else _ : List (Nat × List Nat)).map _ = _
    rw [if_neg h3, e]
    show ([c] : List Nat) :: (pcs n (at' + 1 + 0) s).map _ = _
    rw [h n _ (by simpa using hl)]
    rfl
/-- what may stand behind a word or a number -/
def Bd (s : List Nat) : Prop := s = [] ∨ ∃ c r, s = c :: r ∧ grp c = 0
theorem run_all {g : Nat} {w s : List Nat} (hg : g ≠ 0) (hw : ∀ c ∈ w, grp c = g) (hs : Bd s) : run g (w ++ s) = w.length := by
  unfold run
  rw [if_neg hg]
  have e : (w ++ s).takeWhile (fun c => grp c == g) = w := by
    rw [List.takeWhile_append_of_pos (fun c hc => by simp [hw c hc])]
    have : s.takeWhile (fun c => grp c == g) = [] := by
      rcases hs with rfl | ⟨c, r, rfl, h⟩
      · rfl
      · rw [List.takeWhile_cons]
        have : (grp c == g) = false := by rw [h]; exact beq_eq_false_iff_ne.mpr fun z => hg z.symm
        rw [this]
        rfl
    rw [this, List.append_nil]
  rw [e]
theorem Wd.word {w s : List Nat} {g : Nat} {ws : List (List Nat)} (h : Wd s ws) (hg : g ≠ 0) (hw : ∀ c ∈ w, grp c = g) (hn : w ≠ []) (hs : Bd s) : Wd (w ++ s) (w :: ws) := fun n at' hl => by
  cases w with
  | nil => exact absurd rfl hn
  | cons c w =>
    have gc := hw c List.mem_cons_self
    have h3 : c ≠ 32 := fun z => by
      rw [z] at gc
      exact hg gc.symm
    have e : run (grp c) (w ++ s) = w.length := by
      rw [gc]
      exact run_all hg (fun x hx => hw x (List.mem_cons_of_mem _ hx)) hs
    cases n with
    | zero => cases hl
    | succ n =>
      show (if c = 32 then _ else _ : List (Nat × List Nat)).map _ = _
      rw [if_neg h3]
      show (c :: (w ++ s).take (run (grp c) (w ++ s))) :: (pcs n _ ((w ++ s).drop (run (grp c) (w ++ s)))).map _ = _
      rw [e, List.take_left, List.drop_left, h n _ (by simp at hl; omega)]
      rfl
/-- a text that gives these words wherever it stands -/
def It (x : List Nat) (tx : List (List Nat)) : Prop := ∀ s ws, Bd s → Wd s ws → Wd (x ++ s) (tx ++ ws)
theorem It.wd {x : List Nat} {tx : List (List Nat)} (h : It x tx) : Wd x tx := by
  have := h [] [] (.inl rfl) .nil
  rw [List.append_nil, List.append_nil] at this
  exact this
theorem It.word {w : List Nat} {g : Nat} (hg : g ≠ 0) (hw : ∀ c ∈ w, grp c = g) (hn : w ≠ []) : It w [w] := fun _ _ hb h => h.word hg hw hn hb
def Sp (g : List Nat) : Prop := ∀ c ∈ g, c = 32
theorem Sp.wd : ∀ {g : List Nat} (_ : Sp g) {s : List Nat} {ws : List (List Nat)}, Wd s ws → Wd (g ++ s) ws
  | [], _, _, _, h => h
  | c :: g, hg, s, ws, h => by
    cases hg c List.mem_cons_self
    exact (Sp.wd (fun x hx => hg x (List.mem_cons_of_mem _ hx)) h).sp
theorem Sp.bd {g s : List Nat} (h : Sp g) (hs : Bd s) : Bd (g ++ s) := by
  cases g with
  | nil => exact hs
  | cons c g =>
    cases h c List.mem_cons_self
    exact .inr ⟨32, g ++ s, rfl, rfl⟩
theorem Sp.bd1 {g s : List Nat} (h : Sp g) (hn : g ≠ []) : Bd (g ++ s) := by
  cases g with
  | nil => exact absurd rfl hn
  | cons c g =>
    cases h c List.mem_cons_self
    exact .inr ⟨32, g ++ s, rfl, rfl⟩
/-- two with blanks between -/
theorem It.two {x y g : List Nat} {tx ty : List (List Nat)} (hx : It x tx) (hg : Sp g) (hn : g ≠ []) (hy : It y ty) : It (x ++ (g ++ y)) (tx ++ ty) := fun s ws hb h => by
  rw [List.append_assoc, List.append_assoc, List.append_assoc]
  exact hx _ _ (hg.bd1 hn) (hg.wd (hy _ _ hb h))
/-- two with a mark between, blanks about it -/
theorem It.mk {x y b1 b2 : List Nat} {c : Nat} {tx ty : List (List Nat)} (hx : It x tx) (h1 : Sp b1) (hc : grp c = 0) (h3 : c ≠ 32) (h2 : Sp b2) (hy : It y ty) : It (x ++ (b1 ++ (c :: (b2 ++ y)))) (tx ++ ([c] :: ty)) := fun s ws hb h => by
  have e : (x ++ (b1 ++ (c :: (b2 ++ y)))) ++ s = x ++ (b1 ++ (c :: (b2 ++ (y ++ s)))) := by simp
  have e2 : (tx ++ ([c] :: ty)) ++ ws = tx ++ ([c] :: (ty ++ ws)) := by simp
  rw [e, e2]
  exact hx _ _ (h1.bd (.inr ⟨c, _, rfl, hc⟩)) (h1.wd ((h2.wd (hy _ _ hb h)).mark hc h3))
inductive F2 {α β : Type} (R : α → β → Prop) : List α → List β → Prop
  | nil : F2 R [] []
  | cons {a : α} {b : β} {l : List α} {m : List β} : R a b → F2 R l m → F2 R (a :: l) (b :: m)
/-- joined rows -/
def joinL (g : List Nat) : List (List Nat) → List Nat
  | [] => []
  | [x] => x
  | x :: y :: r => x ++ (g ++ joinL g (y :: r))
theorem It.join {g : List Nat} (hg : Sp g) (hn : g ≠ []) : ∀ {xs : List (List Nat)} {ts : List (List (List Nat))}, F2 It xs ts → xs ≠ [] → It (joinL g xs) ts.flatten
  | _, _, .nil, h => absurd rfl h
  | _, _, .cons a .nil, _ => by simpa [joinL] using a
  | _, _, .cons a (.cons b r), _ => by
    have := It.join hg hn (.cons b r) (by simp)
    exact a.two hg hn this
def joinM (m : List Nat) : List (List (List Nat)) → List (List Nat)
  | [] => []
  | [x] => x
  | x :: y :: r => x ++ (m :: joinM m (y :: r))
theorem It.joinM {c : Nat} {b1 b2 : List Nat} (h1 : Sp b1) (hc : grp c = 0) (h3 : c ≠ 32) (h2 : Sp b2) : ∀ {xs : List (List Nat)} {ts : List (List (List Nat))}, F2 It xs ts → xs ≠ [] → It (joinL (b1 ++ (c :: b2)) xs) (Tk.joinM [c] ts)
  | _, _, .nil, h => absurd rfl h
  | _, _, .cons a .nil, _ => by simpa [joinL, Tk.joinM] using a
  | _, _, .cons (a := x) a (.cons (a := y) (l := r) b rr), _ => by
    have := It.joinM h1 hc h3 h2 (.cons b rr) (by simp)
    have e : joinL (b1 ++ (c :: b2)) (x :: y :: r) = x ++ (b1 ++ (c :: (b2 ++ joinL (b1 ++ (c :: b2)) (y :: r)))) := by
      simp [joinL]
    rw [e]
    exact a.mk h1 hc h3 h2 this
end Tk

set_option Elab.async false
set_option linter.all false
set_option maxRecDepth 100000
set_option maxHeartbeats 4000000
/-! != of two lists by their lengths -/
namespace L2
open PySem PySem.Spec PyProof.Rows
section
variable {X : Cx}
/-- x != y of two lists whose lengths differ; else of data -/
def rNeLn (K : PySem.W.Frag) : R2 := fun x y H Q => (∃ a b xs ys, x = .ref a ∧ y = .ref b ∧ H a = some (.lst xs) ∧ H b = some (.lst ys) ∧ xs.length ≠ ys.length ∧ Q (.bl true) H) ∨ rNeD K x y H Q
theorem op_neLn (hu : X.A.units + 64 < cLine) : OpR X (compareOp .NotEq) (rNeLn X.K) := by
  intro pins s σ H x y v u Q I rx ry h
  rcases h with ⟨a, b, xs, ys, rfl, rfl, ha, hb, hn, q⟩ | h
  · obtain rfl : v = Value.ref a := rx
    obtain rfl : u = Value.ref b := ry
    obtain ⟨t1, r1, p1, _⟩ := I.list (SqL.of ha)
    obtain ⟨t2, r2, p2, _⟩ := I.list (SqL.of hb)
    have l1 := r1.length
    have l2 := r2.length
    refine SeqAt.RcNeAt.lists_lengths p1.isList p2.isList ?_ (by omega) X.prog X.w _ _ ⟨.bl true, H, I, rfl, q⟩
    simp only [bne_iff_ne, ne_eq, List.size_toArray]
    omega
  · exact (op_neD hu) pins s σ H x y v u Q I rx ry h
end
end L2

set_option Elab.async false
set_option linter.all false
set_option maxRecDepth 100000
set_option maxHeartbeats 4000000
/-! list(z) of a text -/
namespace Lx
open PySem PySem.Spec PyProof.Rows L2
def sgns (z : Str) : List V := z.cps.toList.map fun c => V.str ⟨#[c]⟩
def rListX : List V → Hp → VK → Prop := fun xs H Q => ∃ z, xs = [.str z] ∧ z.length ≤ sizeLine ∧ ∀ q, H q = none → Q (.ref q) (upd H q (.lst (sgns z)))
theorem call_list_tx {X : Cx} (hc : X.calm = true) : CallR X (.type "list") rListX := by
  intro pins s σ H xs us Q I r h
  obtain ⟨z, e, hz, q⟩ := h
  subst e
  obtain ⟨u, eu, rx⟩ := vals1 r
  subst eu
  obtain ⟨t, rfl⟩ := rx
  refine PySem.call_list_str (I.ok.hd hc) z t (hn := hz) fun h' tk acc' c' hkeep hS hacc => ?_
  have el : acc'.toList.length = acc'.size := by simp
  refine ⟨.ref s.heap.objs.size, upd H s.heap.objs.size (.lst (sgns z)), I.laid hkeep (Nat.le_refl _) (show ObjOk X.prog X.w _ _ _ (.lst (sgns z)) from ⟨?_, acc'.toList, c', ?_, ?_⟩), rfl, q _ (I.hok.fresh (Nat.le_refl _))⟩
  · unfold sgns
    rw [List.length_map, Array.length_toList]
    exact hz
  · refine vals_of_at (by unfold sgns; rw [List.length_map, el, hacc.1, Array.length_toList]) fun j x w h1 h2 => ?_
    obtain ⟨c, u, hcj, rfl⟩ := hacc.2 j w (by rw [← Array.getElem?_toList]; exact h2)
    unfold sgns at h1
    rw [List.getElem?_map, Array.getElem?_toList, hcj] at h1
    cases h1
    exact ⟨u, rfl⟩
  · rw [Array.toArray_toList]; exact hS
end Lx

set_option Elab.async false
set_option linter.all false
set_option maxRecDepth 100000
set_option maxHeartbeats 4000000
namespace Hl
open PySem PySem.Spec PyProof.Rows L2
abbrev sDeal : Stmt := topS 42
abbrev sPick : Stmt := topS 43
abbrev sOf : Stmt := topS 44
abbrev sLike : Stmt := topS 45
theorem lg {n : Int} {b : Nat} (h : n.natAbs < 2 ^ b) (h0 : 0 < b) (h9 : b ≤ 9000) : n.natAbs.log2 < 9000 := Nat.lt_of_lt_of_le (PySem.Flt.log2_lt_of h0 h) h9
/-! what a rule does with a number -/
structure OkE (e a : Int) (m : Option Int) : Prop where
  e1 : 1 ≤ e
  e4 : e ≤ 4
  a0 : 0 ≤ a
  a2 : a ≤ 2
  mo : m = none ∨ m = some 1 ∨ m = some 2
def downF (e a : Int) (m : Option Int) (x : Int) : Int :=
  match m with
  | some k => if a + e * k < x then a + e * k else x
  | none => if x < a then x else a + (x - a) % e
def timesF (e a : Int) (m : Option Int) (x : Int) : Int :=
  match m with
  | some k => if k < (if x - a > 0 then x - a else 0) / e then k else (if x - a > 0 then x - a else 0) / e
  | none => (if x - a > 0 then x - a else 0) / e
theorem down_add {e a : Int} {m : Option Int} {x w : Int} (h : OkE e a m) (hx : 0 ≤ x) (hw : 0 ≤ w) : downF e a m (downF e a m x + w) = downF e a m (x + w) := by
  obtain ⟨e1, e4, a0, a2, mo⟩ := h
  have he : e = 1 ∨ e = 2 ∨ e = 3 ∨ e = 4 := by omega
  rcases mo with rfl | rfl | rfl <;> rcases he with rfl | rfl | rfl | rfl <;> simp only [downF] <;> omega
theorem times_add {e a : Int} {m : Option Int} {x w : Int} (h : OkE e a m) (hx : 0 ≤ x) (hw : 0 ≤ w) : timesF e a m (downF e a m x + w) - timesF e a m (downF e a m x) = timesF e a m (x + w) - timesF e a m x := by
  obtain ⟨e1, e4, a0, a2, mo⟩ := h
  have he : e = 1 ∨ e = 2 ∨ e = 3 ∨ e = 4 := by omega
  rcases mo with rfl | rfl | rfl <;> rcases he with rfl | rfl | rfl | rfl <;> simp only [downF, timesF] <;> omega
theorem down_ge {e a : Int} {m : Option Int} {x : Int} (h : OkE e a m) (hx : 0 ≤ x) : 0 ≤ downF e a m x := by
  obtain ⟨e1, e4, a0, a2, mo⟩ := h
  have he : e = 1 ∨ e = 2 ∨ e = 3 ∨ e = 4 := by omega
  rcases mo with rfl | rfl | rfl <;> rcases he with rfl | rfl | rfl | rfl <;> simp only [downF] <;> omega
theorem down_le {e a : Int} {m : Option Int} {x : Int} (h : OkE e a m) (hx : 0 ≤ x) : downF e a m x ≤ 10 := by
  obtain ⟨e1, e4, a0, a2, mo⟩ := h
  have he : e = 1 ∨ e = 2 ∨ e = 3 ∨ e = 4 := by omega
  rcases mo with rfl | rfl | rfl <;> rcases he with rfl | rfl | rfl | rfl <;> simp only [downF] <;> omega
theorem times_mono {e a : Int} {m : Option Int} {x w : Int} (h : OkE e a m) (hx : 0 ≤ x) (hw : 0 ≤ w) : 0 ≤ timesF e a m (x + w) - timesF e a m x ∧ timesF e a m (x + w) - timesF e a m x ≤ x + w := by
  obtain ⟨e1, e4, a0, a2, mo⟩ := h
  have he : e = 1 ∨ e = 2 ∨ e = 3 ∨ e = 4 := by omega
  rcases mo with rfl | rfl | rfl <;> rcases he with rfl | rfl | rfl | rfl <;> simp only [timesF] <;> omega
/-- a positive divisor below 2 ^ 9000 -/
def CDivP (_ j : Int) : Prop := 0 < j ∧ j.natAbs.log2 < 9000
theorem op_fdivP {X : Cx} : OpR X (binaryOp .FloorDiv) (rI CDivP fun i j => .int (i / j)) := opI fun i j _ _ _ _ _ hc q => by
  have h1 : (0 : Int) < j := hc.1
  exact floordiv_int (by omega) (by rw [Int.fdiv_eq_ediv_of_nonneg i (by omega)]; exact q) (.inl (PyProof.noPylong_of_log2 hc.2))
/-- what stands in a deal -/
def d5 (l : Addr) (at' z m c : Int) : HO := .lst [.ref l, .int at', .int z, .int m, .int c]
structure Deal (H : Hp) (p l : Addr) : Prop where
  ex : ∃ (ns : List Int) (a z m c : Int), H p = some (d5 l a z m c) ∧ H l = some (.lst (ns.map V.int)) ∧ l ≠ p ∧ 0 ≤ a ∧ 0 ≤ z ∧ 0 ≤ m ∧ m < 2147483587
theorem upd_upd {H : Hp} {p : Addr} {a b : HO} : upd (upd H p a) p b = upd H p b := by
  funext x
  by_cases h : x = p
  · rw [h, upd_same, upd_same]
  · rw [upd_ne h, upd_ne h, upd_ne h]
theorem same_upd {H : Hp} {p : Addr} {o : HO} (h : H p = none) : Same H (upd H p o) := fun b x e => by
  rw [upd_ne (ne_of_none e h)]
  exact e
theorem ne_of_fresh {H : Hp} {a b : Addr} {o : HO} (h : H a = some o) (n : H b = none) : b ≠ a := fun e => by
  rw [e, h] at n
  cases n
/-- no deal -/
def Nd (o : HO) : Prop := ∀ l a z m c, o ≠ d5 l a z m c
/-- all that is tracked and no deal stays, nothing is let go -/
structure Kp (H H' : Hp) : Prop where
  keep : ∀ b o, Nd o → H b = some o → H' b = some o
  free : ∀ b, H' b = none → H b = none
theorem Kp.refl (H : Hp) : Kp H H := ⟨fun _ _ _ h => h, fun _ h => h⟩
theorem Kp.trans {H H1 H2 : Hp} (a : Kp H H1) (b : Kp H1 H2) : Kp H H2 := ⟨fun x o n h => b.keep x o n (a.keep x o n h), fun x h => a.free x (b.free x h)⟩
theorem Kp.of {H H1 : Hp} (a : Same H H1) : Kp H H1 := ⟨fun x o _ h => a x o h, fun x h => a.free h⟩
theorem Deal.there {H : Hp} {p l : Addr} (d : Deal H p l) : (∃ o, H p = some o) ∧ ∃ o, H l = some o := by
  obtain ⟨ns, a, z, m, c, hp, hl, r⟩ := d
  exact ⟨⟨_, hp⟩, ⟨_, hl⟩⟩
theorem Deal.ne {H : Hp} {p l q : Addr} (d : Deal H p l) (h : H q = none) : q ≠ p := by
  obtain ⟨⟨o, e⟩, _⟩ := d.there
  exact ne_of_fresh e h
theorem Deal.nl {H : Hp} {p l q : Addr} (d : Deal H p l) (h : H q = none) : q ≠ l := by
  obtain ⟨_, ⟨o, e⟩⟩ := d.there
  exact ne_of_fresh e h
theorem Deal.other {H : Hp} {p l q : Addr} {o : HO} (d : Deal H p l) (h : H q = some o) (n : Nd o) : q ≠ p := by
  obtain ⟨ns, a, z, m, c, hp, hl, r⟩ := d
  intro e
  rw [e, hp] at h
  exact n _ _ _ _ _ (Option.some.inj h).symm
theorem Deal.same {H H' : Hp} {p l : Addr} (d : Deal H p l) (e : Same H H') : Deal H' p l := by
  obtain ⟨ns, a, z, m, c, hp, hl, r⟩ := d
  exact ⟨ns, a, z, m, c, e _ _ hp, e _ _ hl, r⟩
theorem Kp.deal {H : Hp} {p l : Addr} {o : HO} (d : Deal H p l) : Kp H (upd H p o) := ⟨fun b x n h => by rw [upd_ne (d.other h n)]; exact h, fun b h => by
  by_cases e : b = p
  · rw [e, upd_same] at h
    cases h
  · rw [upd_ne e] at h
    exact h⟩
/-- what is new may change -/
theorem Kp.put {H H' : Hp} {D : Addr} {o : HO} (k : Kp H H') (n : H D = none) : Kp H (upd H' D o) := ⟨fun b x nx h => by rw [upd_ne (ne_of_none h n)]; exact k.keep b x nx h, fun b h => by
  by_cases e : b = D
  · rw [e]
    exact n
  · rw [upd_ne e] at h
    exact k.free b h⟩
theorem Deal.put {H : Hp} {p l D : Addr} {o : HO} (d : Deal H p l) (n1 : D ≠ p) (n2 : D ≠ l) : Deal (upd H D o) p l := by
  obtain ⟨ns, a, z, m, c, hp, hl, r⟩ := d
  exact ⟨ns, a, z, m, c, by rw [upd_ne n1.symm]; exact hp, by rw [upd_ne n2.symm]; exact hl, r⟩
theorem nd_tup {xs : List V} : Nd (.tup xs) := fun _ _ _ _ _ h => by cases h
theorem nd_dK {xs : List (Key × V)} : Nd (.dK xs) := fun _ _ _ _ _ h => by cases h
theorem nd_lst {xs : List V} (h : ∀ (x : V) (r : List V), xs = x :: r → ∀ a, x ≠ .ref a) : Nd (.lst xs) := fun l a z m c e => by
  have e' := HO.lst.inj (show HO.lst xs = .lst [.ref l, .int a, .int z, .int m, .int c] from e)
  exact h _ _ e' _ rfl
theorem nd_strs {ns : List Str} : Nd (.lst (ns.map V.str)) := nd_lst fun x r e a => by
  cases ns with
  | nil => cases e
  | cons s t =>
    cases e
    intro z
    cases z
theorem nd_ints {ns : List Int} : Nd (.lst (ns.map V.int)) := nd_lst fun x r e a => by
  cases ns with
  | nil => cases e
  | cons s t =>
    cases e
    intro z
    cases z
theorem nd_bls {ns : List Bool} : Nd (.lst (ns.map V.bl)) := nd_lst fun x r e a => by
  cases ns with
  | nil => cases e
  | cons s t =>
    cases e
    intro z
    cases z
theorem nd_refs {ns : List Addr} : Nd (.lst (ns.map V.ref)) := fun l a z m c e => by
  have e' := HO.lst.inj (show HO.lst (ns.map V.ref) = .lst [.ref l, .int a, .int z, .int m, .int c] from e)
  cases ns with
  | nil => cases e'
  | cons s t =>
    cases t with
    | nil =>
      simp at e'
    | cons s2 t2 => simp at e'
theorem nd_nil : Nd (.lst []) := nd_strs (ns := [])
theorem cut63 {xs : List V} (h : xs.length ≤ 63) : cutV xs none (some 63) = xs := by
  unfold cutV
  rw [HT.sIx_none, show HT.sIx xs.length xs.length (some 63) = min 63 xs.length from HT.sIx_nat xs.length xs.length 63, Nat.min_eq_right h]
  show (List.take (xs.length - 0) xs) = xs
  rw [Nat.sub_zero, List.take_length]
section
variable {P : Program} {w : World} {K : PySem.W.Frag} {mg : Str → Option Value} {base : Heap}
/-! _law_deal -/
def spDeal (K : PySem.W.Frag) : Sp := fun vs H Q _ => ∃ (a : Addr) (ns : List Int), vs = [.ref a] ∧ SqL K H a (ns.map V.int) ∧ ns.length ≤ 63 ∧
  ∀ H' p l, Same H H' → H p = none → Deal H' p l → Q (.ref p) H'
theorem scD : FnScope ["_law_script", "_law_mixed", "_law_cell"] ["_law_script"] (defScope sDeal) := ⟨rfl, rfl, rfl, by decide +kernel, rfl, by decide +kernel, by decide +kernel⟩
theorem ok_deal {f : Addr} {fd : FuncData} {k : Nat} (F : Fun K "_law_deal" "_law_deal" sDeal f fd) (mL : mg "list" = none) : FnOk P w K mg base CX0 (k + 1) f fd ["_law_script"] (spDeal K) := by
  refine F.ok scD (fun vs H Q E h => ?_) (fun cdv A outer s H vs Q E hr h => ?_)
  · obtain ⟨a, ns, rfl, _⟩ := h
    rfl
  · obtain ⟨a, ns, rfl, hS, hlen, q⟩ := h
    refine ⟨_, pss_cons (ps_set (i := 1) scD.nd rfl (.inl rfl) pe_int)
      (pss_cons (ps_for PassesOwn.never rfl (pi_list (pe_slice sl_list (pv 0) po_none (po_some pe_int))) (pg_name (i := 2) scD.nd rfl (.inl rfl))
        (pss_one (ps_set (i := 1) scD.nd rfl (.inl rfl) (pe_op op_mod (pe_op op_add (pe_op op_add (pe_op op_mul (pv 1) pe_int) (pe_op op_mod (pv 2) pe_int)) pe_int) pe_int))))
      (pss_one (ps_ret (pe_lst (pa_cons (pe_callTy call_list_of (by rfl) mL (by decide +kernel) (pa_cons (pe_slice sl_list (pv 0) po_none (po_some pe_int)) pa_nil)) (pa_cons pe_int (pa_cons pe_int (pa_cons (pv 1) (pa_cons pe_int pa_nil))))))))), ?_⟩
    have hl63 : (ns.map V.int).length ≤ 63 := by rw [List.length_map]; exact hlen
    refine ⟨_, rfl, 63, rfl, a, ns.map V.int, rfl, hS, fun c nc => ?_⟩
    rw [cut63 hl63]
    have s1 : Same H (upd H c (.lst (ns.map V.int))) := same_upd nc
    refine ⟨c, rfl, ⟨_, SqL.of upd_same⟩, for_list (K := K) (a := c) (xs := ns.map V.int) (fun i σ H' => ∃ (m : Int) (v : Option V), σ = [some (.ref a), some (.int m), v] ∧ 0 ≤ m ∧ m < 2147483587 ∧ H' = upd H c (.lst (ns.map V.int)))
      ⟨9144, none, rfl, by decide, by decide, rfl⟩ (fun i σ H' _ ⟨_, _, _, _, _, e⟩ => by rw [e]; exact SqL.of upd_same) ?_ ?_⟩
    · rintro i y σ H' hi ⟨m, v, rfl, h0, h1, rfl⟩
      obtain ⟨z, hz, rfl⟩ : ∃ z, ns[i]? = some z ∧ y = V.int z := by
        rw [List.getElem?_map] at hi
        cases e : ns[i]? with
        | none =>
          rw [e] at hi
          cases hi
        | some z =>
          rw [e] at hi
          exact ⟨z, rfl, (Option.some.inj hi).symm⟩
      refine ⟨_, rfl, _, _, rfl, rfl, .inl ⟨by omega, by omega⟩, _, rfl, _, _, rfl, rfl, (by show (0 : Int) < 2147483629; decide), _, _, rfl, rfl, _, _, rfl, rfl, _, _, rfl, rfl, (by show (0 : Int) < 2147483587; decide), ?_⟩
      exact ⟨_, some (.int z), rfl, Int.emod_nonneg _ (by decide), Int.emod_lt_of_pos _ (by decide), rfl⟩
    · rintro σ H' ⟨m, v, rfl, h0, h1, rfl⟩
      refine ⟨_, rfl, 63, rfl, a, ns.map V.int, rfl, s1.seq hS, fun b nb => ?_⟩
      rw [cut63 hl63]
      have s2 := same_upd (o := .lst (ns.map V.int)) nb
      refine ⟨b, _, rfl, .inl (SqL.of upd_same), fun l nl => ?_⟩
      have s3 := same_upd (o := .lst (ns.map V.int)) nl
      refine ⟨_, rfl, (by show 5 ≤ sizeLine; decide), fun p np => ?_⟩
      have s4 := same_upd (o := d5 l 0 0 m 0) np
      have S3 := s1.trans (s2.trans s3)
      refine q _ p l (S3.trans s4) (S3.free np) ⟨ns, 0, 0, m, 0, upd_same, ?_, ?_, by decide, by decide, h0, h1⟩
      · exact s4 _ _ upd_same
      · exact (ne_of_fresh (o := .lst (ns.map V.int)) upd_same np).symm
end
section
variable {P : Program} {w : World} {K : PySem.W.Frag} {mg : Str → Option Value} {base : Heap}
/-! _law_pick -/
def spPick : Sp := fun vs H Q _ => ∃ (p l : Addr) (n : Int), vs = [.ref p, .int n] ∧ Deal H p l ∧ 0 < n ∧ n.natAbs.log2 < 9000 ∧
  ∀ (H' : Hp) (r : Int), Kp H H' → Deal H' p l → 0 ≤ r → r < n → Q (.int r) H'
theorem scK : FnScope ["_law_deal_here", "_law_many", "_law_cell", "_law_got", "_law_seed"] ["_law_deal_here", "_law_many"] (defScope sPick) := ⟨rfl, rfl, rfl, by decide +kernel, rfl, by decide +kernel, by decide +kernel⟩
theorem ok_pick {f : Addr} {fd : FuncData} {k : Nat} (F : Fun K "_law_pick" "_law_pick" sPick f fd) (mLen : mg "len" = none) : FnOk P w K mg base CX0 (k + 1) f fd ["_law_deal_here", "_law_many"] spPick := by
  refine F.ok scK (fun vs H Q E h => ?_) (fun cdv A outer s H vs Q E hr h => ?_)
  · obtain ⟨a, l, ns, rfl, _⟩ := h
    rfl
  · obtain ⟨p, l, n, rfl, dl0, hn, hn2, q⟩ := h
    have kd : ∀ o, Kp H (upd H p o) := fun o => Kp.deal dl0
    obtain ⟨ns, a, z, m, c, hp, hl, hlp, ha, hz, hm, hm2⟩ := dl0
    refine ⟨_, pss_cons (ps_asg (pe_op op_add (pe_ix ix_list (pv 0) pe_int (fun _ _ => rfl)) pe_int) (pg_sub (pv 0) pe_int set_list))
      (Evl.pss_cut (ps_if (PW.pt (pw_and (pt_cmpR op_eq (pe_ix ix_list (pv 0) pe_int (fun _ _ => rfl)) pe_int (nomark _)) (pw_and1 (pt_cmpR op_lt (pe_ix ix_list (pv 0) pe_int (fun _ _ => rfl)) (pe_callB call_len_seq (by rfl) mLen PySem.boot_len (pa_cons (pe_ix ix_list (pv 0) pe_int (fun _ _ => rfl)) pa_nil)) (nomark _)))))
          (pss_cons (ps_set (i := 2) scK.nd rfl (.inl rfl) (pe_ix ix_list (pe_ix ix_list (pv 0) pe_int (fun _ _ => rfl)) (pe_ix ix_list (pv 0) pe_int (fun _ _ => rfl)) (fun _ _ => rfl)))
          (pss_cons (ps_asg (pe_op op_add (pe_ix ix_list (pv 0) pe_int (fun _ _ => rfl)) pe_int) (pg_sub (pv 0) pe_int set_list))
          (pss_one (ps_if (pt_cmpR op_ge (pv 2) (pe_op op_pow pe_int pe_int) (nomark _)) (pss_one (ps_asg (pv 2) (pg_sub (pv 0) pe_int set_list)))
            (pss_one (ps_asg (pe_op op_mod (pe_op op_add (pe_op op_add (pe_op op_mul (pe_ix ix_list (pv 0) pe_int (fun _ _ => rfl)) pe_int) (pe_op op_mul (pe_op op_mod (pv 2) pe_int) pe_int)) pe_int) pe_int) (pg_sub (pv 0) pe_int set_list)))))))
          pss_nil)
      (pss_cons (ps_if (pt_cmpR op_gt (pe_ix ix_list (pv 0) pe_int (fun _ _ => rfl)) pe_int (nomark _))
          (pss_cons (ps_set (i := 3) scK.nd rfl (.inl rfl) (pe_op op_mod (pe_ix ix_list (pv 0) pe_int (fun _ _ => rfl)) (pv 1)))
          (pss_cons (ps_asg (pe_op op_fdivP (pe_ix ix_list (pv 0) pe_int (fun _ _ => rfl)) (pv 1)) (pg_sub (pv 0) pe_int set_list))
          (pss_one (ps_ret (pv 3))))) pss_nil)
      (pss_cons (ps_set (i := 4) scK.nd rfl (.inl rfl) (pe_ix ix_list (pv 0) pe_int (fun _ _ => rfl)))
      (pss_cons (ps_asg (pe_op op_mod (pe_op op_add (pe_op op_add (pe_op op_add (pe_op op_mul (pe_op op_mod (pe_op op_mul (pv 4) (pv 4)) pe_int) pe_int) (pe_op op_mul (pv 4) pe_int)) pe_int) (pe_ix ix_list (pv 0) pe_int (fun _ _ => rfl))) pe_int) (pg_sub (pv 0) pe_int set_list))
      (pss_one (ps_ret (pe_op op_mod (pe_op op_add (pe_op op_fdivP (pe_ix ix_list (pv 0) pe_int (fun _ _ => rfl)) pe_int) (pe_op op_mul (pe_op op_mod (pe_ix ix_list (pv 0) pe_int (fun _ _ => rfl)) pe_int) pe_int)) (pv 1)))))))), ?_⟩
    -- deal[4] = deal[4] + 1
    refine ⟨_, rfl, p, _, 4, _, rfl, rfl, SqL.of hp, atI_nat (j := 4) rfl, _, _, rfl, rfl, _, rfl, p, _, 4, 4, rfl, rfl, hp, by rfl, ?_⟩
    have hl1 : ∀ o, upd H p o l = some (.lst (ns.map V.int)) := fun o => by rw [upd_ne hlp]; exact hl
    have hp1 : (upd H p (d5 l a z m (c + 1))) p = some (d5 l a z m (c + 1)) := upd_same
    -- the ways meet
    refine ⟨fun σ' H' => ∃ (v : Option V) (a z m : Int), σ' = [some (.ref p), some (.int n), v, none, none] ∧ H' = upd H p (d5 l a z m (c + 1)) ∧ 0 ≤ a ∧ 0 ≤ z ∧ 0 ≤ m ∧ m < 2147483587, ?_, ?_⟩
    · refine ⟨_, rfl, p, _, 2, _, rfl, rfl, SqL.of hp1, atI_nat (j := 2) rfl, rfl, _, rfl, ite2 (fun e => ?_) (fun e => ?_)⟩
      · refine ⟨_, rfl, p, _, 1, _, rfl, rfl, SqL.of hp1, atI_nat (j := 1) rfl, _, rfl, p, _, 0, _, rfl, rfl, SqL.of hp1, atI_nat (j := 0) rfl, l, _, rfl, .inl (SqL.of (hl1 _)), _, _, rfl, rfl, _, rfl, ite2 (fun e2 => ?_) (fun e2 => ?_)⟩
        · have hlt : a < ((ns.map V.int).length : Int) := of_decide_eq_true e2
          obtain ⟨j, rfl⟩ := Int.eq_ofNat_of_zero_le ha
          have hj : j < ns.length := by
            rw [List.length_map] at hlt
            omega
          have gj : (ns.map V.int)[j]? = some (.int ns[j]) := by
            rw [List.getElem?_map, List.getElem?_eq_getElem hj]
            rfl
          refine ⟨_, rfl, p, _, 0, _, rfl, rfl, SqL.of hp1, atI_nat (j := 0) rfl, _, rfl, p, _, 1, _, rfl, rfl, SqL.of hp1, atI_nat (j := 1) rfl, l, _, _, _, rfl, rfl, SqL.of (hl1 _), atI_nat (j := j) gj, ?_⟩
          refine ⟨_, rfl, p, _, 1, _, rfl, rfl, SqL.of hp1, atI_nat (j := 1) rfl, _, _, rfl, rfl, _, rfl, p, _, 1, 1, rfl, rfl, hp1, by rfl, ?_⟩
          have hp2 : (upd (upd H p (d5 l j z m (c + 1))) p (d5 l (j + 1) z m (c + 1))) p = some (d5 l (j + 1) z m (c + 1)) := upd_same
          refine ⟨_, rfl, _, _, rfl, rfl, ⟨by decide, by decide, by decide⟩, _, _, rfl, rfl, _, rfl, ite2 (fun e3 => ?_) (fun e3 => ?_)⟩
          · have h18 : (1000000000000000000 : Int) ≤ ns[j] := of_decide_eq_true e3
            refine ⟨_, rfl, _, rfl, p, _, 2, 2, rfl, rfl, hp2, by rfl, ?_⟩
            exact ⟨_, _, _, _, rfl, by rw [upd_upd, upd_upd]; rfl, by omega, by omega, hm, hm2⟩
          · refine ⟨_, rfl, p, _, 3, _, rfl, rfl, SqL.of hp2, atI_nat (j := 3) rfl, _, _, rfl, rfl, .inl ⟨by omega, by omega⟩, _, rfl, _, _, rfl, rfl, (by show (0 : Int) < 2147483629; decide), _, _, rfl, rfl, .inr ⟨by decide, by decide⟩, _, _, rfl, rfl, _, _, rfl, rfl, _, _, rfl, rfl, (by show (0 : Int) < 2147483587; decide), _, rfl, p, _, 3, 3, rfl, rfl, hp2, by rfl, ?_⟩
            exact ⟨_, _, _, _, rfl, by rw [upd_upd, upd_upd]; rfl, by omega, hz, Int.emod_nonneg _ (by decide), Int.emod_lt_of_pos _ (by decide)⟩
        · exact ⟨_, _, _, _, rfl, rfl, ha, hz, hm, hm2⟩
      · exact iteF ⟨_, _, _, _, rfl, rfl, ha, hz, hm, hm2⟩
    · rintro σ' H' ⟨v, a, z, m, rfl, rfl, ha, hz, hm, hm2⟩
      have hp1 : (upd H p (d5 l a z m (c + 1))) p = some (d5 l a z m (c + 1)) := upd_same
      have dl : ∀ (z m : Int), 0 ≤ z → 0 ≤ m → m < 2147483587 → Deal (upd H p (d5 l a z m (c + 1))) p l := fun z m h1 h2 h3 => ⟨ns, a, z, m, c + 1, upd_same, hl1 _, hlp, ha, h1, h2, h3⟩
      refine ⟨_, rfl, p, _, 2, _, rfl, rfl, SqL.of hp1, atI_nat (j := 2) rfl, _, _, rfl, rfl, _, rfl, ite2 (fun e => ?_) (fun e => ?_)⟩
      · refine ⟨_, rfl, p, _, 2, _, rfl, rfl, SqL.of hp1, atI_nat (j := 2) rfl, _, rfl, _, _, rfl, rfl, hn, ?_⟩
        refine ⟨_, rfl, p, _, 2, _, rfl, rfl, SqL.of hp1, atI_nat (j := 2) rfl, _, rfl, _, _, rfl, rfl, ⟨hn, hn2⟩, _, rfl, p, _, 2, 2, rfl, rfl, hp1, by rfl, ?_⟩
        refine ⟨_, rfl, ?_⟩
        rw [upd_upd]
        exact q _ _ (kd _) (dl _ _ (Int.ediv_nonneg hz (Int.le_of_lt hn)) hm hm2) (Int.emod_nonneg _ (by omega)) (Int.emod_lt_of_pos _ hn)
      · refine ⟨_, rfl, p, _, 3, _, rfl, rfl, SqL.of hp1, atI_nat (j := 3) rfl, ?_⟩
        refine ⟨_, rfl, _, rfl, _, _, rfl, rfl, .inl ⟨by omega, by omega⟩, _, _, rfl, rfl, (by show (0 : Int) < 2147483563; decide), _, _, rfl, rfl, .inr ⟨by decide, by decide⟩, _, rfl, _, _, rfl, rfl, .inr ⟨by decide, by decide⟩, _, _, rfl, rfl, _, _, rfl, rfl, _, rfl, p, _, 4, _, rfl, rfl, SqL.of hp1, atI_nat (j := 4) rfl, _, _, rfl, rfl, _, _, rfl, rfl, (by show (0 : Int) < 2147483587; decide), _, rfl, p, _, 3, 3, rfl, rfl, hp1, by rfl, ?_⟩
        refine ⟨_, rfl, p, _, 3, _, rfl, rfl, SqL.of upd_same, atI_nat (j := 3) rfl, _, _, rfl, rfl, ⟨by decide, by decide⟩, _, rfl, p, _, 3, _, rfl, rfl, SqL.of upd_same, atI_nat (j := 3) rfl, _, _, rfl, rfl, (by show (0 : Int) < 7919; decide), _, _, rfl, rfl, .inr ⟨by decide, by decide⟩, _, _, rfl, rfl, _, rfl, _, _, rfl, rfl, hn, ?_⟩
        rw [upd_upd]
        exact q _ _ (kd _) (dl _ _ hz (Int.emod_nonneg _ (by decide)) (Int.emod_lt_of_pos _ (by decide))) (Int.emod_nonneg _ (by omega)) (Int.emod_lt_of_pos _ hn)
end
theorem iT {c : Bool} {A B : Prop} (hc : c = true) (h : A) : if c = true then A else B := by
  rw [if_pos hc]
  exact h
theorem iF {c : Bool} {A B : Prop} (hc : c = false) (h : B) : if c = true then A else B := by
  rw [hc, if_neg Bool.false_ne_true]
  exact h
section
variable {K : PySem.W.Frag} {H H' : Hp}
theorem same_t {a : Addr} {xs : List V} (e : Same H H') (h : SqT K H a xs) : SqT K H' a xs := by
  rcases h with (h | ⟨o, h⟩) | h
  · exact .inl (.inl (e _ _ h))
  · exact .inl (.inr ⟨o, e _ _ h⟩)
  · exact .inr h
theorem tyL {a : Addr} {xs : List V} (h : SqL K H a xs) : TyX K H (.ref a) (.type "list") := by
  rcases h with (h | ⟨o, h⟩) | ⟨o, its, n, h1, h2, _⟩
  · exact .base (.lst h)
  · exact .base (.frz h)
  · exact .kList h1 h2
theorem tyT {a : Addr} {xs : List V} (h : SqT K H a xs) : TyX K H (.ref a) (.type "tuple") := by
  rcases h with (h | ⟨o, h⟩) | ⟨o, its, n, h1, h2, _⟩
  · exact .base (.tup h)
  · exact .fTuple h
  · exact .kTuple h1 h2
theorem kA_list : PySem.W.kitAny K (.type "list") [.type "list", .type "tuple"] = some true := kitAny_cons (b := true) (kit_ty (by decide +kernel)) (fun z => by cases z) (fun _ => rfl)
theorem kA_tuple : PySem.W.kitAny K (.type "tuple") [.type "list", .type "tuple"] = some true :=
  kitAny_cons (b := false) (kit_ty (by decide +kernel)) (fun _ => kitAny_cons (b := true) (kit_ty (by decide +kernel)) (fun z => by cases z) (fun _ => rfl)) (fun z => by cases z)
theorem kA_no {t : String} (h1 : kitB t "list" = some false) (h2 : kitB t "tuple" = some false) : PySem.W.kitAny K (.type t) [.type "list", .type "tuple"] = some false :=
  kitAny_cons (b := false) (kit_ty h1) (fun _ => kitAny_cons (b := false) (kit_ty h2) (fun _ => kitAny_nil) (fun z => by cases z)) (fun z => by cases z)
theorem pCls : Paired ClsV [.ty "list", .ty "tuple"] [.type "list", .type "tuple"] := .cons (.ty _) (.cons (.ty _) .nil)
/-- two values that read as the same data, at most n deep -/
inductive Lk (K : PySem.W.Frag) (H : Hp) : Nat → V → V → Prop
  | non {n : Nat} : Lk K H n .non .non
  | bl {n : Nat} (b : Bool) : Lk K H n (.bl b) (.bl b)
  | int {n : Nat} (i : Int) : Lk K H n (.int i) (.int i)
  | str {n : Nat} (s : Str) : Lk K H n (.str s) (.str s)
  | lst {n : Nat} {a b : Addr} {xs ys : List V} (ha : SqL K H a xs) (hb : SqL K H b ys) (hl : xs.length = ys.length) (h1 : ys.length ≤ 1000) (hi : ∀ (i : Nat) (x y : V), xs[i]? = some x → ys[i]? = some y → Lk K H n x y) : Lk K H (n + 1) (.ref a) (.ref b)
  | tup {n : Nat} {a b : Addr} {xs ys : List V} (ha : SqT K H a xs) (hb : SqT K H b ys) (hl : xs.length = ys.length) (h1 : ys.length ≤ 1000) (hi : ∀ (i : Nat) (x y : V), xs[i]? = some x → ys[i]? = some y → Lk K H n x y) : Lk K H (n + 1) (.ref a) (.ref b)
theorem Lk.mono {n : Nat} {x y : V} (e : Same H H') (h : Lk K H n x y) : Lk K H' n x y := by
  induction h with
  | non => exact .non
  | bl b => exact .bl b
  | int b => exact .int b
  | str b => exact .str b
  | lst ha hb hl h1 hi ih => exact .lst (e.seq ha) (e.seq hb) hl h1 ih
  | tup ha hb hl h1 hi ih => exact .tup (same_t e ha) (same_t e hb) hl h1 ih
end
section
variable {P : Program} {w : World} {K : PySem.W.Frag} {mg : Str → Option Value} {base : Heap}
def spLike (K : PySem.W.Frag) : Nat → Sp
  | 0 => fun _ _ _ _ => False
  | n + 1 => fun vs H Q _ => ∃ x y : V, vs = [x, y] ∧ Lk K H n x y ∧ ∀ H', Same H H' → Q (.bl true) H'
theorem scL : FnScope ["_law_found", "_law_due", "_law_k"] ["_law_found", "_law_due"] (defScope sLike) := ⟨rfl, rfl, rfl, by decide +kernel, rfl, by decide +kernel, by decide +kernel⟩
/-- the built-ins that the law's own defs ask for by name -/
structure Bi (mg : Str → Option Value) : Prop where
  isi : mg "isinstance" = none
  lst : mg "list" = none
  tup : mg "tuple" = none
  len : mg "len" = none
  all : mg "all" = none
  rng : mg "range" = none
  boo : mg "bool" = none
  int : mg "int" = none
  str : mg "str" = none
  abs : mg "abs" = none
theorem ok_like {f : Addr} {fd : FuncData} (F : Fun K "_law_like" "_law_like" sLike f fd) (bL : Binds K fd ["_law_found", "_law_due"] []) (gL : mg "_law_like" = some (.ref f)) (B : Bi mg) : ∀ n : Nat, FnOk P w K mg base CX0 (n + 1) f fd ["_law_found", "_law_due"] (spLike K n)
  | 0 => F.ok scL (fun vs H Q E h => h.elim) (fun cdv A outer s H vs Q E hr h => h.elim)
  | n + 1 => by
    have GL : FnOk P w K mg base CX0 (n + 1) f fd ["_law_found", "_law_due"] (spLike K n) := ok_like F bL gL B n
    refine F.ok scL (fun vs H Q E h => ?_) (fun cdv A outer s H vs Q E hr h => ?_)
    · obtain ⟨a, ns, rfl, _⟩ := h
      rfl
    · obtain ⟨x, y, rfl, hk, q⟩ := h
      refine ⟨_, pss_cons (ps_if (pt_val (pe_callB call_isiT (by rfl) B.isi (by decide +kernel) (pa_cons (pv 1) (pa_cons (pe_tup (pa_cons (pe_bltn (v := .ty "list") (by rfl) B.lst (by decide +kernel) rfl) (pa_cons (pe_bltn (v := .ty "tuple") (by rfl) B.tup (by decide +kernel) rfl) pa_nil))) pa_nil))))
          (pss_cons (ps_if (PW.pt (pw_or
                (pt_cmpR op_ne (pe_callB call_isi (by rfl) B.isi (by decide +kernel) (pa_cons (pv 0) (pa_cons (pe_bltn (v := .ty "list") (by rfl) B.lst (by decide +kernel) rfl) pa_nil))) (pe_callB call_isi (by rfl) B.isi (by decide +kernel) (pa_cons (pv 1) (pa_cons (pe_bltn (v := .ty "list") (by rfl) B.lst (by decide +kernel) rfl) pa_nil))) (nomark _))
                (pw_or1 (pt_cmpR op_ne (pe_callB call_isi (by rfl) B.isi (by decide +kernel) (pa_cons (pv 0) (pa_cons (pe_bltn (v := .ty "tuple") (by rfl) B.tup (by decide +kernel) rfl) pa_nil))) (pe_callB call_isi (by rfl) B.isi (by decide +kernel) (pa_cons (pv 1) (pa_cons (pe_bltn (v := .ty "tuple") (by rfl) B.tup (by decide +kernel) rfl) pa_nil))) (nomark _)))))
              (pss_one (ps_ret pe_bl)) pss_nil)
          (pss_one (ps_ret (pe_and (pe_cmpR op_eq (pe_callB call_len_seq (by rfl) B.len PySem.boot_len (pa_cons (pv 0) pa_nil)) (pe_callB call_len_seq (by rfl) B.len PySem.boot_len (pa_cons (pv 1) pa_nil)) (nomark _))
            (pe_one (pe_callB (cr_all rfl) (by rfl) B.all (by decide +kernel) (pa_cons
              (pe_lc (own := [("_law_k", 2)]) (g := gName 2) (tt := tYes) rfl scL.nd (pi_range1 (by rfl) B.rng (pa_cons (pe_callB call_len_seq (by rfl) B.len PySem.boot_len (pa_cons (pv 1) pa_nil)) pa_nil))
                (blkOk_by (own := [("_law_k", 2)]) (N := ["_law_found", "_law_due", "_law_k"]) (sc := defScope sLike) (by decide +kernel))
                (fun _ _ _ _ _ => pg_name (i := 2) scL.nd rfl (Or.inl rfl)) (fun _ _ _ _ _ => pts_nil)
                (fun _ _ _ _ _ => pe_call GL hr (by rfl) gL F.kp bL .nil pass0 (pa_cons (pe_ix (r := rIx K) ix_seq (pv 0) (pv 2) (fun _ _ => rfl)) (pa_cons (pe_ix (r := rIx K) ix_seq (pv 1) (pv 2) (fun _ _ => rfl)) pa_nil))))
              pa_nil))))))) pss_nil)
        (pss_cons (ps_if (PW.pt (pw_or (pt_cmpR op_isN (pv 1) pe_non (nomark _)) (pw_or1 (pt_cmpR op_isN (pv 0) pe_non (nomark _)))))
          (pss_one (ps_ret (pe_and (pe_cmpR op_isN (pv 1) pe_non (nomark _)) (pe_one (pe_cmpR op_isN (pv 0) pe_non (nomark _)))))) pss_nil)
        (pss_cons (ps_if (PW.pt (pw_or
                (pt_cmpR op_ne (pe_callB call_isi (by rfl) B.isi (by decide +kernel) (pa_cons (pv 0) (pa_cons (pe_bltn (v := .ty "bool") (by rfl) B.boo (by decide +kernel) rfl) pa_nil))) (pe_callB call_isi (by rfl) B.isi (by decide +kernel) (pa_cons (pv 1) (pa_cons (pe_bltn (v := .ty "bool") (by rfl) B.boo (by decide +kernel) rfl) pa_nil))) (nomark _))
                (pw_or1 (pt_cmpR op_ne (pe_callB call_isi (by rfl) B.isi (by decide +kernel) (pa_cons (pv 0) (pa_cons (pe_bltn (v := .ty "int") (by rfl) B.int (by decide +kernel) rfl) pa_nil))) (pe_callB call_isi (by rfl) B.isi (by decide +kernel) (pa_cons (pv 1) (pa_cons (pe_bltn (v := .ty "int") (by rfl) B.int (by decide +kernel) rfl) pa_nil))) (nomark _)))))
              (pss_one (ps_ret pe_bl)) pss_nil)
        (pss_one (ps_ret (pe_and (pe_cmpR op_eq (pe_callB call_isi (by rfl) B.isi (by decide +kernel) (pa_cons (pv 0) (pa_cons (pe_bltn (v := .ty "str") (by rfl) B.str (by decide +kernel) rfl) pa_nil))) (pe_callB call_isi (by rfl) B.isi (by decide +kernel) (pa_cons (pv 1) (pa_cons (pe_bltn (v := .ty "str") (by rfl) B.str (by decide +kernel) rfl) pa_nil))) (nomark _))
          (pe_one (pe_cmpR op_eq (pv 0) (pv 1) (nomark _)))))))), ?_⟩
      cases hk with
      | non =>
        refine ⟨_, rfl, (by show 2 ≤ sizeLine; decide), fun T hT => ⟨_, T, _, _, _, _, rfl, upd_same, pCls, .base .non, kA_no (by decide +kernel) (by decide +kernel), _, rfl, iteF ?_⟩⟩
        refine ⟨_, rfl, rfl, _, rfl, iT (decide_eq_true rfl) (iteT ?_)⟩
        refine ⟨_, rfl, rfl, _, rfl, iT (decide_eq_true rfl) ⟨_, rfl, rfl, ?_⟩⟩
        rw [decide_eq_true rfl]
        exact q _ (same_upd hT)
      | bl b =>
        refine ⟨_, rfl, (by show 2 ≤ sizeLine; decide), fun T hT => ⟨_, T, _, _, _, _, rfl, upd_same, pCls, .base (.bl b), kA_no (by decide +kernel) (by decide +kernel), _, rfl, iteF ?_⟩⟩
        refine ⟨_, rfl, rfl, _, rfl, iF rfl ⟨_, rfl, rfl, _, rfl, iteF ?_⟩⟩
        refine ⟨_, rfl, _, _, _, _, true, rfl, .ty _, .base (.bl b), kit_ty (by decide +kernel), _, rfl, _, _, _, _, true, rfl, .ty _, .base (.bl b), kit_ty (by decide +kernel), rfl, _, rfl, iF (by decide) ?_⟩
        refine ⟨_, rfl, _, _, _, _, true, rfl, .ty _, .base (.bl b), kit_ty (by decide +kernel), _, rfl, _, _, _, _, true, rfl, .ty _, .base (.bl b), kit_ty (by decide +kernel), rfl, _, rfl, iF (by decide) ?_⟩
        refine ⟨_, rfl, _, _, _, _, false, rfl, .ty _, .base (.bl b), kit_ty (by decide +kernel), _, rfl, _, _, _, _, false, rfl, .ty _, .base (.bl b), kit_ty (by decide +kernel), rfl, _, rfl, iT (by decide) ⟨_, rfl, _, rfl, rfl, ?_⟩⟩
        rw [decide_eq_true rfl]
        exact q _ (same_upd hT)
      | int b =>
        refine ⟨_, rfl, (by show 2 ≤ sizeLine; decide), fun T hT => ⟨_, T, _, _, _, _, rfl, upd_same, pCls, .base (.int b), kA_no (by decide +kernel) (by decide +kernel), _, rfl, iteF ?_⟩⟩
        refine ⟨_, rfl, rfl, _, rfl, iF rfl ⟨_, rfl, rfl, _, rfl, iteF ?_⟩⟩
        refine ⟨_, rfl, _, _, _, _, false, rfl, .ty _, .base (.int b), kit_ty (by decide +kernel), _, rfl, _, _, _, _, false, rfl, .ty _, .base (.int b), kit_ty (by decide +kernel), rfl, _, rfl, iF (by decide) ?_⟩
        refine ⟨_, rfl, _, _, _, _, true, rfl, .ty _, .base (.int b), kit_ty (by decide +kernel), _, rfl, _, _, _, _, true, rfl, .ty _, .base (.int b), kit_ty (by decide +kernel), rfl, _, rfl, iF (by decide) ?_⟩
        refine ⟨_, rfl, _, _, _, _, false, rfl, .ty _, .base (.int b), kit_ty (by decide +kernel), _, rfl, _, _, _, _, false, rfl, .ty _, .base (.int b), kit_ty (by decide +kernel), rfl, _, rfl, iT (by decide) ⟨_, rfl, _, rfl, rfl, ?_⟩⟩
        rw [decide_eq_true rfl]
        exact q _ (same_upd hT)
      | str b =>
        refine ⟨_, rfl, (by show 2 ≤ sizeLine; decide), fun T hT => ⟨_, T, _, _, _, _, rfl, upd_same, pCls, .base (.str b), kA_no (by decide +kernel) (by decide +kernel), _, rfl, iteF ?_⟩⟩
        refine ⟨_, rfl, rfl, _, rfl, iF rfl ⟨_, rfl, rfl, _, rfl, iteF ?_⟩⟩
        refine ⟨_, rfl, _, _, _, _, false, rfl, .ty _, .base (.str b), kit_ty (by decide +kernel), _, rfl, _, _, _, _, false, rfl, .ty _, .base (.str b), kit_ty (by decide +kernel), rfl, _, rfl, iF (by decide) ?_⟩
        refine ⟨_, rfl, _, _, _, _, false, rfl, .ty _, .base (.str b), kit_ty (by decide +kernel), _, rfl, _, _, _, _, false, rfl, .ty _, .base (.str b), kit_ty (by decide +kernel), rfl, _, rfl, iF (by decide) ?_⟩
        refine ⟨_, rfl, _, _, _, _, true, rfl, .ty _, .base (.str b), kit_ty (by decide +kernel), _, rfl, _, _, _, _, true, rfl, .ty _, .base (.str b), kit_ty (by decide +kernel), rfl, _, rfl, iT (by decide) ⟨_, rfl, _, rfl, rfl, ?_⟩⟩
        rw [decide_eq_true rfl]
        exact q _ (same_upd hT)
      | lst ha hb hl h1 hi =>
        rename_i n a b xs ys
        refine ⟨_, rfl, (by show 2 ≤ sizeLine; decide), fun T hT => ?_⟩
        have s1 := same_upd (o := .tup [V.ty "list", V.ty "tuple"]) hT
        have hA := Same.seq s1 ha
        have hB := Same.seq s1 hb
        refine ⟨_, T, _, _, _, _, rfl, upd_same, pCls, tyL hB, kA_list, _, rfl, iteT ?_⟩
        refine ⟨_, rfl, _, _, _, _, true, rfl, .ty _, tyL hA, kit_ty (by decide +kernel), _, rfl, _, _, _, _, true, rfl, .ty _, tyL hB, kit_ty (by decide +kernel), rfl, _, rfl, iF (by decide) ?_⟩
        refine ⟨_, rfl, _, _, _, _, false, rfl, .ty _, tyL hA, kit_ty (by decide +kernel), _, rfl, _, _, _, _, false, rfl, .ty _, tyL hB, kit_ty (by decide +kernel), rfl, _, rfl, iF (by decide) ?_⟩
        refine ⟨_, rfl, a, xs, rfl, .inl hA, _, rfl, b, ys, rfl, .inl hB, rfl, _, rfl, iT (by rw [hl]; exact decide_eq_true rfl) ?_⟩
        refine ⟨_, rfl, b, ys, rfl, .inl hB, (ys.length : Int), rfl, by omega, by omega, fun D hD => ?_⟩
        refine lc_range (lo := 0) (n := ys.length) (fun i H' => Same H H' ∧ H' D = some (.lst (List.replicate i (.bl true)))) ?_ ?_ ?_
        · have s2 := same_upd (o := .lst []) hD
          exact ⟨s1.trans s2, upd_same⟩
        · rintro i H3 hlt ⟨s3, hD3⟩
          have hA3 := Same.seq s3 ha
          have hB3 := Same.seq s3 hb
          have hlt2 : i < xs.length := by omega
          have g1 : xs[i]? = some xs[i] := List.getElem?_eq_getElem hlt2
          have g2 : ys[i]? = some ys[i] := List.getElem?_eq_getElem hlt
          refine ⟨rfl, ?_⟩
          refine ⟨_, rfl, _, rfl, .inl ⟨a, xs, _, _, rfl, rfl, hA3, at_of (j := i) (by omega) g1, _, rfl, _, rfl, .inl ⟨b, ys, _, _, rfl, rfl, hB3, at_of (j := i) (by omega) g2, _, _, rfl, (hi i _ _ g1 g2).mono s3, fun H4 s4 => ?_⟩⟩⟩
          refine ⟨_, s4 _ _ hD3, ?_, ?_⟩
          · rw [List.length_replicate]
            exact small1000 (by omega)
          · have nD : H D = none := s1.free hD
            refine ⟨fun b' o' e => ?_, ?_⟩
            · rw [upd_ne (ne_of_none e nD)]
              exact s4 _ _ (s3 _ _ e)
            · rw [upd_same, List.replicate_succ']
        · rintro H3 ⟨s3, hD3⟩
          refine ⟨D, List.replicate ys.length true, rfl, SqL.of (by rw [hD3, List.map_replicate]), ?_⟩
          rw [show (List.replicate ys.length true).all id = true by simp]
          exact q _ s3
      | tup ha hb hl h1 hi =>
        rename_i n a b xs ys
        refine ⟨_, rfl, (by show 2 ≤ sizeLine; decide), fun T hT => ?_⟩
        have s1 := same_upd (o := .tup [V.ty "list", V.ty "tuple"]) hT
        have hA := same_t s1 ha
        have hB := same_t s1 hb
        refine ⟨_, T, _, _, _, _, rfl, upd_same, pCls, tyT hB, kA_tuple, _, rfl, iteT ?_⟩
        refine ⟨_, rfl, _, _, _, _, false, rfl, .ty _, tyT hA, kit_ty (by decide +kernel), _, rfl, _, _, _, _, false, rfl, .ty _, tyT hB, kit_ty (by decide +kernel), rfl, _, rfl, iF (by decide) ?_⟩
        refine ⟨_, rfl, _, _, _, _, true, rfl, .ty _, tyT hA, kit_ty (by decide +kernel), _, rfl, _, _, _, _, true, rfl, .ty _, tyT hB, kit_ty (by decide +kernel), rfl, _, rfl, iF (by decide) ?_⟩
        refine ⟨_, rfl, a, xs, rfl, .inr hA, _, rfl, b, ys, rfl, .inr hB, rfl, _, rfl, iT (by rw [hl]; exact decide_eq_true rfl) ?_⟩
        refine ⟨_, rfl, b, ys, rfl, .inr hB, (ys.length : Int), rfl, by omega, by omega, fun D hD => ?_⟩
        refine lc_range (lo := 0) (n := ys.length) (fun i H' => Same H H' ∧ H' D = some (.lst (List.replicate i (.bl true)))) ?_ ?_ ?_
        · have s2 := same_upd (o := .lst []) hD
          exact ⟨s1.trans s2, upd_same⟩
        · rintro i H3 hlt ⟨s3, hD3⟩
          have hA3 := same_t s3 ha
          have hB3 := same_t s3 hb
          have hlt2 : i < xs.length := by omega
          have g1 : xs[i]? = some xs[i] := List.getElem?_eq_getElem hlt2
          have g2 : ys[i]? = some ys[i] := List.getElem?_eq_getElem hlt
          refine ⟨rfl, ?_⟩
          refine ⟨_, rfl, _, rfl, .inr <| .inl ⟨a, xs, _, _, rfl, rfl, hA3, at_of (j := i) (by omega) g1, _, rfl, _, rfl, .inr <| .inl ⟨b, ys, _, _, rfl, rfl, hB3, at_of (j := i) (by omega) g2, _, _, rfl, (hi i _ _ g1 g2).mono s3, fun H4 s4 => ?_⟩⟩⟩
          refine ⟨_, s4 _ _ hD3, ?_, ?_⟩
          · rw [List.length_replicate]
            exact small1000 (by omega)
          · have nD : H D = none := s1.free hD
            refine ⟨fun b' o' e => ?_, ?_⟩
            · rw [upd_ne (ne_of_none e nD)]
              exact s4 _ _ (s3 _ _ e)
            · rw [upd_same, List.replicate_succ']
        · rintro H3 ⟨s3, hD3⟩
          refine ⟨D, List.replicate ys.length true, rfl, SqL.of (by rw [hD3, List.map_replicate]), ?_⟩
          rw [show (List.replicate ys.length true).all id = true by simp]
          exact q _ s3
end
section
variable {P : Program} {w : World} {K : PySem.W.Frag} {mg : Str → Option Value} {base : Heap}
/-! _law_of -/
def spOf : Sp := fun vs H Q _ => ∃ (p l a : Addr) (xs : List V), vs = [.ref p, .ref a] ∧ Deal H p l ∧ H a = some (.lst xs) ∧ Nd (.lst xs) ∧ 0 < xs.length ∧ xs.length ≤ 1000 ∧
  ∀ (H' : Hp) (x : V), x ∈ xs → Kp H H' → Deal H' p l → Q x H'
theorem scO : FnScope ["_law_deal_here", "_law_some"] ["_law_deal_here", "_law_some"] (defScope sOf) := ⟨rfl, rfl, rfl, by decide +kernel, rfl, by decide +kernel, by decide +kernel⟩
theorem ok_of {f fK : Addr} {fd fdK : FuncData} {k : Nat} (F : Fun K "_law_of" "_law_of" sOf f fd) (FK : Fun K "_law_pick" "_law_pick" sPick fK fdK) (bK : Binds K fdK ["_law_deal_here", "_law_many"] []) (gK : mg "_law_pick" = some (.ref fK)) (B : Bi mg) :
    FnOk P w K mg base CX0 (k + 2) f fd ["_law_deal_here", "_law_some"] spOf := by
  have GK : FnOk P w K mg base CX0 (k + 1) fK fdK ["_law_deal_here", "_law_many"] spPick := ok_pick FK B.len
  refine F.ok scO (fun vs H Q E h => ?_) (fun cdv A outer s H vs Q E hr h => ?_)
  · obtain ⟨a, l, ns, xs, rfl, _⟩ := h
    rfl
  · obtain ⟨p, l, a, xs, rfl, dl, hS, nd, h0, h1, q⟩ := h
    refine ⟨_, pss_one (ps_ret (pe_ix ix_list (pv 1) (pe_call GK hr (by rfl) gK FK.kp bK .nil pass0 (pa_cons (pv 0) (pa_cons (pe_callB call_len_seq (by rfl) B.len PySem.boot_len (pa_cons (pv 1) pa_nil)) pa_nil))) (fun _ _ => rfl))), ?_⟩
    refine ⟨_, rfl, _, rfl, _, rfl, a, xs, rfl, .inl (SqL.of hS), p, l, (xs.length : Int), rfl, dl, by omega, lg (b := 10) (by omega) (by decide) (by decide), fun H' r kp dl' r0 r1 => ?_⟩
    obtain ⟨j, rfl⟩ := Int.eq_ofNat_of_zero_le r0
    have hj : j < xs.length := by omega
    refine ⟨a, xs, _, _, rfl, rfl, SqL.of (kp.keep _ _ nd hS), atI_nat (j := j) (List.getElem?_eq_getElem hj), ?_⟩
    exact q H' _ (List.getElem_mem hj) kp dl'
end
section
variable {K : PySem.W.Frag} {H H' : Hp}
theorem pr_get {R : V → V → Prop} {xs ys : List V} (h : Paired R xs ys) : ∀ (i : Nat) (x y : V), xs[i]? = some x → ys[i]? = some y → R x y := by
  induction h with
  | nil =>
    intro i x y h
    cases h
  | cons a r ih =>
    intro i x y h1 h2
    cases i with
    | zero =>
      cases Option.some.inj h1
      cases Option.some.inj h2
      exact a
    | succ j => exact ih j x y h1 h2
theorem lk_list {n : Nat} {a b : Addr} {xs ys : List V} (ha : SqL K H a xs) (hb : SqL K H b ys) (h : Paired (Lk K H n) xs ys) (hl : ys.length ≤ 1000) : Lk K H (n + 1) (.ref a) (.ref b) := .lst ha hb h.length hl (pr_get h)
theorem lk_tup {n : Nat} {a b : Addr} {xs ys : List V} (ha : SqT K H a xs) (hb : SqT K H b ys) (h : Paired (Lk K H n) xs ys) (hl : ys.length ≤ 1000) : Lk K H (n + 1) (.ref a) (.ref b) := .tup ha hb h.length hl (pr_get h)
theorem lk_ints {n : Nat} : ∀ ns : List Int, Paired (Lk K H n) (ns.map V.int) (ns.map V.int)
  | [] => .nil
  | i :: r => .cons (.int i) (lk_ints r)
end
end Hl

set_option Elab.async false
set_option linter.all false
set_option maxRecDepth 100000
set_option maxHeartbeats 4000000
namespace Hl
open PySem PySem.Spec PyProof.Rows L2
/-! xs[i] op= e: the read, i 0 or more -/
def rIxP (K : PySem.W.Frag) : R2 := fun x y H Q => ∃ (p : Addr) (xs : List V) (i : Nat) (z : V), x = .ref p ∧ y = .int i ∧ SqL K H p xs ∧ xs[i]? = some z ∧ Q z H
theorem get_list {X : Cx} : PGet X (rIxP X.K) := by
  intro pins s σ H x y v u Q I rx ry h
  obtain ⟨p, xs, i, z, rfl, rfl, hq, he, q⟩ := h
  cases (show v = Value.ref p from rx)
  obtain ⟨t, rfl⟩ := (show ∃ t, u = Value.int i t from ry)
  obtain ⟨its, r, pl, hz⟩ := I.list hq
  obtain ⟨w, ew, rw'⟩ := r.get he
  have hl := r.length
  have hn := line63
  have hi : i < its.length := (List.getElem?_eq_some_iff.mp ew).1
  exact wpAny_getItem_list pl.isList (by omega) (by omega) (by simpa using ew) ⟨z, H, I, rw', q⟩
end Hl

set_option Elab.async false
set_option linter.all false
set_option maxRecDepth 100000
set_option maxHeartbeats 4000000
namespace Hl
open PySem PySem.Spec PyProof.Rows L2
theorem nd_frz {o : Obj} {u : HO} : Nd (.frz o u) := fun _ _ _ _ _ h => by cases h
def TupN (H : Hp) (a : Addr) (xs : List V) : Prop := ∃ o : Obj, o.dict = none ∧ H a = some (.frz o (.tup xs))
theorem TupN.rd {H : Hp} {a : Addr} {xs : List V} (h : TupN H a xs) : Rd H a (.tup xs) := let ⟨o, _, h⟩ := h; .inr ⟨o, h⟩
theorem TupN.same {H H' : Hp} {a : Addr} {xs : List V} (k : Same H H') (h : TupN H a xs) : TupN H' a xs := let ⟨o, d, h⟩ := h; ⟨o, d, k _ _ h⟩
theorem TupN.kp {H H' : Hp} {a : Addr} {xs : List V} (k : Kp H H') (h : TupN H a xs) : TupN H' a xs := let ⟨o, d, h⟩ := h; ⟨o, d, k.keep _ _ nd_frz h⟩
/-- tuple(x): a new one has no dict -/
def rTupF (K : PySem.W.Frag) : List V → Hp → VK → Prop := fun xs H Q => ∃ p ys, xs = [.ref p] ∧ ((SqL K H p ys ∧ ∀ (l : Addr) (o : Obj), H l = none → o.dict = none → Q (.ref l) (upd H l (.frz o (.tup ys)))) ∨ (SqT K H p ys ∧ Q (.ref p) H))
theorem call_tupF {X : Cx} : CallR X (.type "tuple") (rTupF X.K) := by
  intro pins s σ H xs us Q I r h
  obtain ⟨p, ys, rfl, h⟩ := h
  obtain ⟨u, rfl, rx⟩ := vals1 r
  cases rx
  rcases h with ⟨hq, q⟩ | ⟨hq, q⟩
  · obtain ⟨its, r', pl, hz⟩ := I.list hq
    have hlen := r'.length
    refine call_tuple_list pl.isList (fun h' kp => ?_) (by simp only [List.size_toArray] <;> omega)
    have I1 : Inv X pins σ H { s with heap := h' } := I.kept (t' := s.toks) kp
    have I2 : Inv X pins σ (upd H h'.objs.size (.frz { cls := .type "tuple", data := .seq its.toArray } (.tup ys))) { s with heap := h'.push { cls := .type "tuple", data := .seq its.toArray } } :=
      I1.laid (t' := s.toks) (fun b o e => Heap.get?_push_of_some _ e) (Nat.le_refl _) ⟨Heap.get?_push_size _ rfl, hz, its, r', IsTup.new _ _⟩
    exact ⟨.ref h'.objs.size, _, I2, rfl, q _ _ (I1.hok.fresh (Nat.le_refl _)) rfl⟩
  · obtain ⟨its, r', pl, hz⟩ := I.tuple hq
    exact call_tuple_same pl ⟨.ref p, H, I, rfl, q⟩
/-- a rule as data -/
structure Rl where
  e : Int
  a : Int
  m : Option Int
  ws : List (Str × Int)
  gs : List (Str × Int)
def moV : Option Int → V
  | none => .non
  | some k => .int k
def PairAt (H : Hp) (v : V) (p : Str × Int) : Prop := ∃ a, v = .ref a ∧ H a = some (.tup [.str p.1, .int p.2])
def PairsAt (H : Hp) (t : Addr) (ps : List (Str × Int)) : Prop := ∃ vs, TupN H t vs ∧ Paired (PairAt H) vs ps
def RuleAt (H : Hp) (v : V) (r : Rl) : Prop := ∃ t wt gt, v = .ref t ∧ H t = some (.tup [.str "each", .int r.e, .int r.a, .ref wt, .ref gt, moV r.m]) ∧ PairsAt H wt r.ws ∧ PairsAt H gt r.gs
theorem paired_mono {α β : Type} {R S : α → β → Prop} (h : ∀ a b, R a b → S a b) : ∀ {xs : List α} {ys : List β}, Paired R xs ys → Paired S xs ys
  | _, _, .nil => .nil
  | _, _, .cons a r => .cons (h _ _ a) (paired_mono h r)
theorem paired_get {α β : Type} {R : α → β → Prop} : ∀ {xs : List α} {ys : List β} (_ : Paired R xs ys) (i : Nat) (x : α), xs[i]? = some x → ∃ y, ys[i]? = some y ∧ R x y
  | _, _, .nil, i, x, e => by cases e
  | _, _, .cons a r, 0, x, e => by
    cases Option.some.inj e
    exact ⟨_, rfl, a⟩
  | _, _, .cons a r, i + 1, x, e => paired_get r i x e
theorem paired_get2 {α β : Type} {R : α → β → Prop} : ∀ {xs : List α} {ys : List β} (_ : Paired R xs ys) (i : Nat) (y : β), ys[i]? = some y → ∃ x, xs[i]? = some x ∧ R x y
  | _, _, .nil, i, x, e => by cases e
  | _, _, .cons a r, 0, x, e => by
    cases Option.some.inj e
    exact ⟨_, rfl, a⟩
  | _, _, .cons a r, i + 1, x, e => paired_get2 r i x e
section
variable {H H' : Hp}
theorem PairAt.kp {v : V} {p : Str × Int} (k : Kp H H') (h : PairAt H v p) : PairAt H' v p := by
  obtain ⟨a, e, h⟩ := h
  exact ⟨a, e, k.keep _ _ nd_tup h⟩
theorem PairsAt.kp {t : Addr} {p : List (Str × Int)} (k : Kp H H') (h : PairsAt H t p) : PairsAt H' t p := by
  obtain ⟨vs, e, h⟩ := h
  exact ⟨vs, e.kp k, paired_mono (fun _ _ => PairAt.kp k) h⟩
theorem RuleAt.kp {v : V} {r : Rl} (k : Kp H H') (h : RuleAt H v r) : RuleAt H' v r := by
  obtain ⟨t, wt, gt, e, h, h1, h2⟩ := h
  exact ⟨t, wt, gt, e, k.keep _ _ nd_tup h, h1.kp k, h2.kp k⟩
end
def tm (r : Rl) (x : Int) : Int := timesF r.e r.a r.m x
section
variable {P : Program} {w : World} {K : PySem.W.Frag} {mg : Str → Option Value} {base : Heap}
structure Bj (mg : Str → Option Value) : Prop where
  min : mg "min" = none
  max : mg "max" = none
  sum : mg "sum" = none
  zip : mg "zip" = none
  sorted : mg "sorted" = none
end
end Hl

set_option Elab.async false
set_option linter.all false
set_option maxRecDepth 100000
set_option maxHeartbeats 4000000
namespace Hl
open PySem PySem.Spec PyProof.Rows L2
/-- the place of a name -/
def ixOf (outs : List Str) (n : Str) : Nat := outs.findIdx fun s => decide (s = n)
theorem ixOf_lt {outs : List Str} {n : Str} (h : n ∈ outs) : ixOf outs n < outs.length := List.findIdx_lt_length_of_exists ⟨n, h, decide_eq_true rfl⟩
theorem ixOf_get {outs : List Str} {n : Str} (h : n ∈ outs) : outs[ixOf outs n]? = some n := by
  have hl := ixOf_lt h
  rw [List.getElem?_eq_getElem hl]
  have := List.findIdx_getElem (xs := outs) (p := fun s => decide (s = n)) (w := hl)
  exact congrArg some (of_decide_eq_true this)
theorem ixOf_no {outs : List Str} {n : Str} {m : Nat} {s : Str} (h : m < ixOf outs n) (e : outs[m]? = some s) : s ≠ n := by
  obtain ⟨hl, rfl⟩ := List.getElem?_eq_some_iff.mp e
  have := List.not_of_lt_findIdx (xs := outs) (p := fun s => decide (s = n)) h
  intro z
  simp [z] at this
theorem map_str_get {outs : List Str} {i : Nat} {v : V} (h : (outs.map V.str)[i]? = some v) : ∃ s, outs[i]? = some s ∧ v = .str s := by
  rw [List.getElem?_map] at h
  cases e : outs[i]? with
  | none =>
    rw [e] at h
    cases h
  | some s =>
    rw [e] at h
    exact ⟨s, rfl, (Option.some.inj h).symm⟩
theorem map_int_get {outs : List Int} {i : Nat} {v : V} (h : (outs.map V.int)[i]? = some v) : ∃ s, outs[i]? = some s ∧ v = .int s := by
  rw [List.getElem?_map] at h
  cases e : outs[i]? with
  | none =>
    rw [e] at h
    cases h
  | some s =>
    rw [e] at h
    exact ⟨s, rfl, (Option.some.inj h).symm⟩
theorem strs_flat (ns : List Str) : (ns.map V.str).all flatV = true := by
  rw [List.all_map]
  exact List.all_eq_true.mpr fun _ _ => rfl
theorem ints_flat (ns : List Int) : (ns.map V.int).all flatV = true := by
  rw [List.all_map]
  exact List.all_eq_true.mpr fun _ _ => rfl
def addAt (acc : List Int) (j : Nat) (d : Int) : List Int := acc.set j ((acc[j]?).getD 0 + d)
theorem rep_one (n : Nat) : (List.replicate n [V.int 0]).flatten = (List.replicate n (0 : Int)).map V.int := by
  induction n with
  | zero => rfl
  | succ n ih =>
    rw [List.replicate_succ, List.flatten_cons, ih, List.replicate_succ]
    rfl
end Hl

set_option Elab.async false
set_option linter.all false
set_option maxRecDepth 100000
set_option maxHeartbeats 4000000
namespace Hl
open PySem PySem.Spec PyProof.Rows L2
theorem ints_lay : ∀ s : List Int, PyData.canLayAll0 (s.map PyData.int) = true
  | [] => by simp [PyData.canLayAll0]
  | x :: s => by simp [PyData.canLayAll0, PyData.canLay0, ints_lay s]
theorem ints_depth : ∀ s : List Int, PyData.depthAll (s.map PyData.int) ≤ 1
  | [] => by simp [PyData.depthAll]
  | x :: s => by
    have := ints_depth s
    simp only [List.map_cons, PyData.depthAll, PyData.depth]
    omega
theorem ints_eqv : ∀ a b : List Int, PyData.eqvAll (a.map PyData.int) (b.map PyData.int) = decide (a = b)
  | [], [] => by simp [PyData.eqvAll]
  | [], y :: b => by simp [PyData.eqvAll]
  | x :: a, [] => by simp [PyData.eqvAll]
  | x :: a, y :: b => by
    have ih := ints_eqv a b
    simp only [List.map_cons, PyData.eqvAll, PyData.eqv, ih]
    by_cases h : x = y
    · subst h
      simp
    · simp [h]
theorem lc_zip {K : PySem.W.Frag} {a b : Addr} {xs ys : List V} {g : TG} {tt : TT} {te : TE} {vs : List Nat} {σ : L2.St} {H1 : Hp} {D : Addr} {Qd : Hp → Prop} (hl : xs.length = ys.length) (Pv : Nat → Hp → Prop) (h0 : Pv 0 (upd H1 D (.lst [])))
    (hq : ∀ i H, Pv i H → SqL K H a xs ∧ SqL K H b ys)
    (hs : ∀ (i : Nat) (x y : V) (T : Addr) (H : Hp), xs[i]? = some x → ys[i]? = some y → Pv i H → H T = none → g (.ref T) (wipe σ vs) (upd H T (.tup [x, y])) fun σ2 H2 => wipe σ2 vs = wipe σ vs ∧ tt σ2 H2 fun b H3 =>
      if b = true then te σ2 H3 fun y H4 => ∃ acc, H4 D = some (.lst acc) ∧ acc.length < sizeLine ∧ Pv (i + 1) (upd H4 D (.lst (acc ++ [y]))) else Pv (i + 1) H3) (hd : ∀ H, Pv xs.length H → Qd H) :
    ∃ W : Nat → Nat → Hp → Prop, (∃ m, W 0 m (upd H1 D (.lst []))) ∧ ∀ i m H, W i m H →
      ((Itz K a b).stop i H ∧ Qd H) ∨ ((Itz K a b).go i H ∧ ∃ Nx : Hp → Prop, (∀ H', Nx H' → ∃ m', m' < m ∧ W (i + 1) m' H') ∧ ∀ x H', (Itz K a b).yld i H x H' → g x (wipe σ vs) H' fun σ2 H2 => wipe σ2 vs = wipe σ vs ∧ tt σ2 H2 fun b H3 =>
        if b = true then te σ2 H3 fun y H4 => ∃ acc, H4 D = some (.lst acc) ∧ acc.length < sizeLine ∧ Nx (upd H4 D (.lst (acc ++ [y]))) else Nx H3) := by
  refine ⟨fun i m H => m = xs.length - i ∧ i ≤ xs.length ∧ Pv i H, ⟨xs.length, rfl, Nat.zero_le _, h0⟩, ?_⟩
  rintro i m H ⟨rfl, hi, p⟩
  obtain ⟨qx, qy⟩ := hq i H p
  by_cases hlt : i < xs.length
  · refine .inr ⟨⟨xs, ys, _, _, qx, qy, List.getElem?_eq_getElem hlt, List.getElem?_eq_getElem (show i < ys.length by omega)⟩, Pv (i + 1), fun H' p' => ⟨xs.length - (i + 1), by omega, rfl, hlt, p'⟩, ?_⟩
    rintro v H' ⟨T, x, y, rfl, hT, rfl, f1, f2⟩
    exact hs i x y T H (f1 _ qx) (f2 _ qy) p hT
  · have e : i = xs.length := by omega
    subst e
    exact .inl ⟨⟨xs, ys, qx, qy, .inl (Nat.le_refl _)⟩, hd H p⟩
theorem _root_.L2.Same.put {H H' : Hp} {D : Addr} {o : HO} (k : Same H H') (n : H D = none) : Same H (upd H' D o) := fun b x e => by
  rw [upd_ne (ne_of_none e n)]
  exact k _ _ e
theorem upd_self {H : Hp} {a : Addr} {o : HO} (h : H a = some o) : upd H a o = H := by
  funext b
  by_cases e : b = a
  · rw [e, upd_same, h]
  · rw [upd_ne e]
theorem paired_snoc {α β : Type} {R : α → β → Prop} {a : α} {b : β} {xs : List α} {ys : List β} (h : Paired R xs ys) (ab : R a b) : Paired R (xs ++ [a]) (ys ++ [b]) := Paired.snoc h ab
section
variable {H H' : Hp}
theorem ints_dp {K : PySem.W.Frag} : ∀ s : List Int, DpAll K H (s.map V.int) (s.map PyData.int)
  | [] => .nil
  | x :: s => .cons (.int x) (ints_dp s)
end
theorem hu65_of {A : Around} {k : Nat} (hr : Room k A) : A.units + 65 < cLine := by
  have := hr.un
  omega
end Hl

set_option Elab.async false
set_option linter.all false
set_option maxRecDepth 100000
set_option maxHeartbeats 4000000
namespace Hl
open PySem PySem.Spec PyProof.Rows L2
abbrev sNames : Stmt := topS 46
def tails : List Str := ["", "b", "zz", "xy", "mmmmm", "bbbbb"]
def abc : Str := "abcdefghijklmnopqrstuvwxyz"
def nameF (t : Str) (a s k : Nat) : Str := (cutS t none (some (a : Int)) ++ ⟨#[(abc.cps.toList[(s + 5 * k) % 26]?).getD 0]⟩) ++ cutS t (some (a : Int)) none
def goodB (s : Str) : Bool := decide (1 ≤ s.length) && (decide (s.length ≤ 6) && ((s.cps.toList.all fun c => decide (97 ≤ c) && decide (c ≤ 122)) && !(keptW.contains s)))
def unlikeB : List Str → Bool
  | [] => true
  | s :: r => !(r.contains s) && unlikeB r
def namesOk (t : Str) (a s : Nat) : Bool := ((List.range 4).map (nameF t a s)).all goodB && unlikeB ((List.range 4).map (nameF t a s))
theorem names_all : (tails.all fun t => (List.range 6).all fun a => (List.range 26).all fun s => namesOk t a s) = true := by decide +kernel
theorem tails_len : (tails.all fun t => decide (t.length ≤ 5)) = true := by decide +kernel
theorem unlike_nodup : ∀ {l : List Str}, unlikeB l = true → l.Nodup
  | [], _ => List.nodup_nil
  | s :: r, h => by
    unfold unlikeB at h
    rw [Bool.and_eq_true] at h
    rw [List.nodup_cons]
    refine ⟨fun z => ?_, unlike_nodup h.2⟩
    have := h.1
    rw [List.contains_iff_mem.mpr z] at this
    cases this
structure Good (s : Str) : Prop where
  l1 : 1 ≤ s.length
  l6 : s.length ≤ 6
  az : ∀ c ∈ s.cps.toList, 97 ≤ c ∧ c ≤ 122
  nk : s ∉ keptW
theorem good_of {s : Str} (h : goodB s = true) : Good s := by
  unfold goodB at h
  simp only [Bool.and_eq_true, decide_eq_true_eq, List.all_eq_true, Bool.not_eq_true'] at h
  exact ⟨h.1, h.2.1, h.2.2.1, fun z => by rw [List.contains_iff_mem.mpr z] at h; exact Bool.noConfusion h.2.2.2⟩
theorem names_good {t : Str} {a s m : Nat} (ht : t ∈ tails) (ha : a ≤ t.length) (hs : s < 26) (hm : m ≤ 4) : ((List.range m).map (nameF t a s)).Nodup ∧ ∀ n ∈ (List.range m).map (nameF t a s), Good n := by
  have l5 := of_decide_eq_true (List.all_eq_true.mp tails_len t ht)
  have h1 := List.all_eq_true.mp names_all t ht
  have h2 := List.all_eq_true.mp h1 a (List.mem_range.mpr (by omega))
  have h3 := List.all_eq_true.mp h2 s (List.mem_range.mpr hs)
  unfold namesOk at h3
  rw [Bool.and_eq_true] at h3
  have sub : ((List.range m).map (nameF t a s)).Sublist ((List.range 4).map (nameF t a s)) := List.Sublist.map _ (List.range_sublist.mpr hm)
  exact ⟨List.Nodup.sublist sub (unlike_nodup h3.2), fun n hn => good_of (List.all_eq_true.mp h3.1 n (sub.subset hn))⟩
theorem cutS_len (t : Str) (lo hi : Option Int) : (cutS t lo hi).length ≤ t.length := cutS_length t lo hi
theorem str_len_append (a b : Str) : (a ++ b).length = a.length + b.length := PySem.Str.length_append a b
section
variable {P : Program} {w : World} {K : PySem.W.Frag} {mg : Str → Option Value} {base : Heap}
def spNames : Sp := fun vs H Q _ => ∃ (p l : Addr) (m : Nat), vs = [.ref p, .int m] ∧ Deal H p l ∧ m ≤ 4 ∧ ∀ (H' : Hp) (q : Addr) (ns : List Str), Kp H H' → Deal H' p l → H q = none → H' q = some (.lst (ns.map V.str)) → ns.length = m → ns.Nodup → (∀ n ∈ ns, Good n) → Q (.ref q) H'
abbrev nmNa : List Str := ["_law_deal_here", "_law_many", "_law_tail", "_law_at", "_law_start", "_law_signs", "_law_k"]
theorem scNa : FnScope nmNa ["_law_deal_here", "_law_many"] (defScope sNames) := ⟨rfl, rfl, rfl, by decide +kernel, rfl, by decide +kernel, by decide +kernel⟩
theorem ok_names {f fK fO : Addr} {fd fdK fdO : FuncData} {k : Nat} (F : Fun K "_law_names" "_law_names" sNames f fd)
    (GK : FnOk P w K mg base CX0 k fK fdK ["_law_deal_here", "_law_many"] spPick) (kK : PySem.W.keepIn K (.ref fK) = true) (bK : Binds K fdK ["_law_deal_here", "_law_many"] []) (gK : mg "_law_pick" = some (.ref fK))
    (GO : FnOk P w K mg base CX0 k fO fdO ["_law_deal_here", "_law_some"] spOf) (kO : PySem.W.keepIn K (.ref fO) = true) (bO : Binds K fdO ["_law_deal_here", "_law_some"] []) (gO : mg "_law_of" = some (.ref fO)) (B : Bi mg) :
    FnOk P w K mg base CX0 (k + 1) f fd ["_law_deal_here", "_law_many"] spNames := by
  refine F.ok scNa (fun vs H Q E h => ?_) (fun cdv A outer s H vs Q E hr h => ?_)
  · obtain ⟨p, l, m, rfl, _⟩ := h
    rfl
  · obtain ⟨p, l, m, rfl, dl, m4, q⟩ := h
    refine ⟨_, pss_cons (ps_set (i := 2) scNa.nd rfl (.inr rfl) (pe_call GO hr (by rfl) gO kO bO .nil pass0 (pa_cons (pv 0) (pa_cons (pe_lst (pa_cons pe_str (pa_cons pe_str (pa_cons pe_str (pa_cons pe_str (pa_cons pe_str (pa_cons pe_str pa_nil))))))) pa_nil))))
      (pss_cons (ps_asg (pe_tup (pa_cons (pe_call GK hr (by rfl) gK kK bK .nil pass0 (pa_cons (pv 0) (pa_cons (pe_op op_add (pe_callB call_len_str (by rfl) B.len PySem.boot_len (pa_cons (pv 2) pa_nil)) pe_int) pa_nil))) (pa_cons (pe_call GK hr (by rfl) gK kK bK .nil pass0 (pa_cons (pv 0) (pa_cons pe_int pa_nil))) pa_nil)))
          (pg_tup rfl (pgs_cons (pg_name (i := 3) scNa.nd rfl (.inr rfl)) (pgs_cons (pg_name (i := 4) scNa.nd rfl (.inr rfl)) pgs_nil))))
      (pss_cons (ps_set (i := 5) scNa.nd rfl (.inr rfl) pe_str)
      (pss_one (ps_ret (pe_lc (own := [("_law_k", 6)]) (g := gName 6) (tt := tYes) rfl scNa.nd (pi_range1 (by rfl) B.rng (pa_cons (pv 1) pa_nil))
        (blkOk_by (own := [("_law_k", 6)]) (N := nmNa) (sc := defScope sNames) (by decide +kernel)) (fun _ _ _ _ _ => pg_name (i := 6) scNa.nd rfl (Or.inl rfl)) (fun _ _ _ _ _ => pts_nil)
        (fun _ _ _ _ _ => pe_op op_add_str (pe_op op_add_str (pe_slice sl_str (pv 2) po_none (po_some (pv 3))) (pe_ix ix_str (pv 5) (pe_op op_mod (pe_op op_add (pv 4) (pe_op op_mul pe_int (pv 6))) pe_int) (fun _ _ => rfl))) (pe_slice sl_str (pv 2) (po_some (pv 3)) po_none))))))), ?_⟩
    refine ⟨_, rfl, (by show 6 ≤ sizeLine; decide), fun c nc => ?_⟩
    have sc := same_upd (o := .lst (tails.map V.str)) nc
    refine ⟨p, l, c, tails.map V.str, rfl, dl.same sc, upd_same, nd_strs, by decide, by decide, fun H1 x hx kp1 dl1 => ?_⟩
    have k1 := (Kp.of sc).trans kp1
    obtain ⟨t, ht, rfl⟩ := List.mem_map.mp hx
    have l5 := of_decide_eq_true (List.all_eq_true.mp tails_len t ht)
    have szt : t.length ≤ sizeLine := Nat.le_of_lt (small1000 (by omega))
    refine ⟨_, rfl, _, rfl, t, rfl, szt, _, _, rfl, rfl, p, l, _, rfl, dl1, by omega, lg (b := 11) (by omega) (by decide) (by decide), fun H2 at' k2 dl2 a0 a1 => ?_⟩
    refine ⟨_, rfl, p, l, 26, rfl, dl2, by decide, lg (b := 11) (by decide) (by decide) (by decide), fun H3 st k3 dl3 b0 b1 => ?_⟩
    obtain ⟨a, rfl⟩ := Int.eq_ofNat_of_zero_le a0
    obtain ⟨sn, rfl⟩ := Int.eq_ofNat_of_zero_le b0
    refine ⟨(by show 2 ≤ sizeLine; decide), fun T nT => ?_⟩
    have sT := same_upd (o := .tup [.int a, .int sn]) nT
    refine ⟨T, _, rfl, SqT.of upd_same, rfl, _, _, rfl, _, _, rfl, rfl, ?_⟩
    have k4 := ((k1.trans k2).trans k3).trans (Kp.of sT)
    have dl4 := dl3.same sT
    generalize (upd H3 T (.tup [.int a, .int sn])) = H4 at *
    refine ⟨_, rfl, (m : Int), rfl, by omega, by omega, fun D nD => ?_⟩
    have sD := same_upd (o := .lst []) nD
    have szc : ∀ lo hi, (cutS t lo hi).length ≤ 1000 := fun lo hi => by
      have h1 := cutS_len t lo hi
      omega
    refine lc_range (lo := 0) (n := m) (fun i H' => Same H4 H' ∧ H' D = some (.lst (((List.range i).map (nameF t a sn)).map V.str))) ⟨sD, upd_same⟩ ?_ ?_
    · rintro i H5 hi ⟨sm, hD⟩
      refine ⟨rfl, ?_⟩
      have hix : (sn + 5 * i) % 26 < 26 := Nat.mod_lt _ (by decide)
      have hc : abc.cps.toList[(sn + 5 * i) % 26]? = some ((abc.cps.toList[(sn + 5 * i) % 26]?).getD 0) := by
        rw [List.getElem?_eq_getElem (show (sn + 5 * i) % 26 < abc.cps.toList.length from hix)]
        rfl
      refine ⟨_, rfl, _, rfl, _, rfl, t, rfl, szt, ?_⟩
      refine ⟨_, rfl, _, rfl, _, rfl, _, _, rfl, rfl, .inl ⟨by decide, by decide⟩, _, _, rfl, rfl, _, _, rfl, rfl, (by show (0 : Int) < 26; decide), abc, _, _, rfl, rfl, (by show 26 ≤ sizeLine; decide), (by show atI abc.cps.toList (((sn : Int) + 5 * (0 + (i : Int))) % 26) = _; rw [show ((sn : Int) + 5 * (0 + (i : Int))) % 26 = (((sn + 5 * i) % 26 : Nat) : Int) by omega]; exact atI_nat hc), _, _, rfl, rfl, ?_, ?_⟩
      · have := szc none (some (a : Int))
        exact Nat.le_of_lt (small1000 (by show _ + 1 ≤ 1000; have := cutS_len t none (some (a : Int)); omega))
      refine ⟨_, rfl, _, rfl, _, rfl, t, rfl, szt, _, _, rfl, rfl, ?_, ?_⟩
      · have h1 := cutS_len t none (some (a : Int))
        have h2 := cutS_len t (some (a : Int)) none
        refine Nat.le_of_lt (small1000 ?_)
        rw [str_len_append]
        show _ + 1 + _ ≤ 1000
        omega
      refine ⟨_, hD, ?_, sm.put nD, ?_⟩
      · rw [List.length_map, List.length_map, List.length_range]
        exact small1000 (by omega)
      · rw [upd_same, List.range_succ, List.map_append, List.map_append]
        rfl
    · rintro H5 ⟨sm, hD⟩
      obtain ⟨nd, gd⟩ := names_good (m := m) ht (show a ≤ t.length by omega) (show sn < 26 by omega) m4
      exact q H5 D _ (k4.trans (Kp.of sm)) (dl4.same sm) (k4.free _ nD) hD (by rw [List.length_map, List.length_range]) nd gd
end
theorem strOk_good {s : Str} (h : Good s) : PyData.strOk s = true := by
  unfold PyData.strOk
  rw [← Array.all_toList]
  exact List.all_eq_true.mpr fun c hc => decide_eq_true (by have := h.az c hc; omega)
theorem strs_lay : ∀ s : List Str, (∀ n ∈ s, Good n) → PyData.canLayAll0 (s.map PyData.str) = true
  | [], _ => by simp [PyData.canLayAll0]
  | x :: s, h => by
    have h1 := strOk_good (h x List.mem_cons_self)
    have h2 := strs_lay s fun n hn => h n (List.mem_cons_of_mem _ hn)
    simp [PyData.canLayAll0, PyData.canLay0, h1, h2]
theorem strs_depth : ∀ s : List Str, PyData.depthAll (s.map PyData.str) ≤ 1
  | [] => by simp [PyData.depthAll]
  | x :: s => by
    have := strs_depth s
    simp only [List.map_cons, PyData.depthAll, PyData.depth]
    omega
theorem strs_shaped (s : List Str) (hg : ∀ n ∈ s, Good n) : SeqAt.shaped (.list (s.map PyData.str)) = true := by
  have h1 := strs_depth s
  have h2 : PyData.depth (.list (s.map PyData.str)) ≤ 64 := by
    simp only [PyData.depth]
    omega
  show (PyData.canLay0 (.list (s.map PyData.str)) && decide (PyData.depth (.list (s.map PyData.str)) ≤ 64)) = true
  rw [Bool.and_eq_true]
  exact ⟨by simp only [PyData.canLay0]; exact strs_lay s hg, decide_eq_true h2⟩
theorem strs_dp {K : PySem.W.Frag} {H : Hp} : ∀ s : List Str, DpAll K H (s.map V.str) (s.map PyData.str)
  | [] => .nil
  | x :: s => .cons (.str x) (strs_dp s)
theorem strs_eqv_nil (s : List Str) : PyData.eqv (.list (s.map PyData.str)) (.list []) = s.isEmpty := by
  cases s <;> simp [PyData.eqv, PyData.eqvAll]
theorem refs_of_pairs {H : Hp} : ∀ {vs : List V} {ps : List (Str × Int)}, Paired (PairAt H) vs ps → ∃ as : List Addr, vs = as.map V.ref
  | _, _, .nil => ⟨[], rfl⟩
  | _, _, .cons ⟨a, e, _⟩ r => by
    obtain ⟨as, h⟩ := refs_of_pairs r
    exact ⟨a :: as, by rw [e, h]; rfl⟩
theorem nd_pairs {H : Hp} {vs : List V} {ps : List (Str × Int)} (h : Paired (PairAt H) vs ps) : Nd (.lst vs) := by
  obtain ⟨as, rfl⟩ := refs_of_pairs h
  exact nd_refs
end Hl

set_option Elab.async false
set_option linter.all false
set_option maxRecDepth 100000
set_option maxHeartbeats 4000000
namespace Hl
open PySem PySem.Spec PyProof.Rows L2
abbrev sFr : Stmt := topS 48
/-! sorted rows of texts -/
theorem le_of_lt {a b : Str} : ltCps b.cps.toList a.cps.toList = false ↔ a.cps.toList ≤ b.cps.toList := by
  rw [ltCps_eq, decide_eq_false_iff_not]
  exact Iff.rfl
theorem rising_pw : ∀ (l : List Str) (p : Str), risingS p l = true → (∀ x ∈ l, p.cps.toList ≤ x.cps.toList) ∧ l.Pairwise fun a b => a.cps.toList ≤ b.cps.toList
  | [], p, _ => ⟨(fun x h => nomatch h), .nil⟩
  | y :: r, p, h => by
    have h' : (!ltCps y.cps.toList p.cps.toList && risingS y r) = true := h
    rw [Bool.and_eq_true, Bool.not_eq_true'] at h'
    obtain ⟨h1, h2⟩ := h'
    have py := le_of_lt.mp h1
    obtain ⟨h3, h4⟩ := rising_pw r y h2
    refine ⟨fun x hx => ?_, .cons h3 h4⟩
    rcases List.mem_cons.mp hx with rfl | hx
    · exact py
    · exact List.le_trans py (h3 x hx)
theorem sorted_pw : ∀ {l : List Str}, sortedS l = true → l.Pairwise fun a b => a.cps.toList ≤ b.cps.toList
  | [], _ => .nil
  | y :: r, h => by
    obtain ⟨h3, h4⟩ := rising_pw r y h
    exact .cons h3 h4
theorem str_ext {a b : Str} (h : a.cps.toList = b.cps.toList) : a = b := by
  cases a
  cases b
  congr 1
  exact Array.toList_inj.mp h
def LtS (a b : Str) : Prop := a.cps.toList < b.cps.toList
theorem lts_of {l : List Str} (h : sortedS l = true) (nd : l.Nodup) : l.Pairwise LtS := by
  have p := sorted_pw h
  clear h
  induction l with
  | nil => exact .nil
  | cons x l ih =>
    obtain ⟨a1, a2⟩ := List.pairwise_cons.mp p
    obtain ⟨n1, n2⟩ := List.nodup_cons.mp nd
    refine .cons (fun y hy => ?_) (ih n2 a2)
    rcases Classical.em (x.cps.toList < y.cps.toList) with h | h
    · exact h
    · exact absurd (by rw [str_ext (List.le_antisymm (a1 y hy) h)]; exact hy) n1
structure OkR (r : Rl) : Prop where
  oe : 1 ≤ r.e ∧ r.e ≤ 6
  oa : 0 ≤ r.a ∧ r.a ≤ 12
  om : ∀ k, r.m = some k → 1 ≤ k ∧ k ≤ 6
  w1 : 1 ≤ r.ws.length
  w3 : r.ws.length ≤ 3
  wn : (r.ws.map (·.1)).Nodup
  wv : ∀ p ∈ r.ws, 0 ≤ p.2 ∧ p.2 ≤ 4
  wg : ∀ p ∈ r.ws, Good p.1
  wr : (r.ws.map (·.1)).Pairwise LtS
  wo : ∀ p ∈ r.ws, 1 ≤ p.2
  g1 : 1 ≤ r.gs.length
  g3 : r.gs.length ≤ 3
  gn : (r.gs.map (·.1)).Nodup
  gv : ∀ p ∈ r.gs, 0 ≤ p.2 ∧ p.2 ≤ 4
  gg : ∀ p ∈ r.gs, Good p.1
  gr : (r.gs.map (·.1)).Pairwise LtS
  go : ∀ p ∈ r.gs, 1 ≤ p.2
section
variable {P : Program} {w : World} {K : PySem.W.Frag} {mg : Str → Option Value} {base : Heap}
def spFr : Sp := fun vs H Q _ => ∃ (p l i o : Addr) (ins outs : List Str), vs = [.ref p, .ref i, .ref o] ∧ Deal H p l ∧ H i = some (.lst (ins.map V.str)) ∧ H o = some (.lst (outs.map V.str)) ∧ 1 ≤ ins.length ∧ ins.length ≤ 3 ∧ 1 ≤ outs.length ∧ outs.length ≤ 3 ∧ ins.Nodup ∧ outs.Nodup ∧ (∀ n ∈ ins, Good n) ∧ (∀ n ∈ outs, Good n) ∧
  ∀ (H' : Hp) (v : V) (r : Rl), Kp H H' → Deal H' p l → RuleAt H' v r → OkR r → (∀ p ∈ r.ws, p.1 ∈ ins) → (∀ p ∈ r.gs, p.1 ∈ outs) → Q v H'
abbrev nmFr : List Str := ["_law_deal_here", "_law_ins", "_law_outs", "_law_used", "_law_paid", "_law_weights", "_law_gives", "_law_cap", "_law_name"]
theorem scFr : FnScope nmFr ["_law_deal_here", "_law_ins", "_law_outs"] (defScope sFr) := ⟨rfl, rfl, rfl, by decide +kernel, rfl, by decide +kernel, by decide +kernel⟩
theorem ok_fr {f fK fO : Addr} {fd fdK fdO : FuncData} {k : Nat} (F : Fun K "_law_full_rule" "_law_full_rule" sFr f fd)
    (GK : FnOk P w K mg base CX0 k fK fdK ["_law_deal_here", "_law_many"] spPick) (kK : PySem.W.keepIn K (.ref fK) = true) (bK : Binds K fdK ["_law_deal_here", "_law_many"] []) (gK : mg "_law_pick" = some (.ref fK))
    (GO : FnOk P w K mg base CX0 k fO fdO ["_law_deal_here", "_law_some"] spOf) (kO : PySem.W.keepIn K (.ref fO) = true) (bO : Binds K fdO ["_law_deal_here", "_law_some"] []) (gO : mg "_law_of" = some (.ref fO)) (B : Bi mg) (J : Bj mg) :
    FnOk P w K mg base CX0 (k + 1) f fd ["_law_deal_here", "_law_ins", "_law_outs"] spFr := by
  refine F.ok scFr (fun vs H Q E h => ?_) (fun cdv A outer s H vs Q E hr h => ?_)
  · obtain ⟨p, l, i, o, ins, outs, rfl, _⟩ := h
    rfl
  · obtain ⟨p, l, i, o, ins, outs, rfl, dl, hi, ho, il1, il3, ol1, ol3, ind, ond, ig, og, q⟩ := h
    refine ⟨_, (pss_cons (ps_setLc (i := 3) (own := [("_law_name", 8)]) (g := gName 8) rfl scFr.nd rfl rfl (sw_true rfl rfl rfl (by decide +kernel)) (pi_list (pe_callB cr_sortedS (by rfl) J.sorted (by decide +kernel) (pa_cons (pv 1) pa_nil))) (blkOk_by (own := [("_law_name", 8)]) (N := nmFr) (sc := defScope sFr) (by decide +kernel)) (fun _ _ _ _ _ => (pg_name (i := 8) scFr.nd rfl (Or.inl rfl))) (fun _ _ _ _ _ => pts_one (pt_cmpR op_eq (pe_call GK hr (by rfl) gK kK bK .nil pass0 (pa_cons (pv 0) (pa_cons pe_int pa_nil))) pe_int (nomark _))) (fun _ _ _ _ _ => (pv 8)))
        (Evl.pss_cut (ps_set (i := 3) scFr.nd rfl (.inl rfl) (pe_ifExp (pt_cmpR (op_neD hr.units) (pv 3) (pe_lst pa_nil) (nomark _)) (pv 3) (pe_lst (pa_cons (pe_call GO hr (by rfl) gO kO bO .nil pass0 (pa_cons (pv 0) (pa_cons (pv 1) pa_nil))) pa_nil))))
        (pss_cons (ps_setLc (i := 4) (own := [("_law_name", 8)]) (g := gName 8) rfl scFr.nd rfl rfl (sw_true rfl rfl rfl (by decide +kernel)) (pi_list (pe_callB cr_sortedS (by rfl) J.sorted (by decide +kernel) (pa_cons (pv 2) pa_nil))) (blkOk_by (own := [("_law_name", 8)]) (N := nmFr) (sc := defScope sFr) (by decide +kernel)) (fun _ _ _ _ _ => (pg_name (i := 8) scFr.nd rfl (Or.inl rfl))) (fun _ _ _ _ _ => pts_one (pt_cmpR op_eq (pe_call GK hr (by rfl) gK kK bK .nil pass0 (pa_cons (pv 0) (pa_cons pe_int pa_nil))) pe_int (nomark _))) (fun _ _ _ _ _ => (pv 8)))
        (Evl.pss_cut (ps_set (i := 4) scFr.nd rfl (.inl rfl) (pe_ifExp (pt_cmpR (op_neD hr.units) (pv 4) (pe_lst pa_nil) (nomark _)) (pv 4) (pe_lst (pa_cons (pe_call GO hr (by rfl) gO kO bO .nil pass0 (pa_cons (pv 0) (pa_cons (pv 2) pa_nil))) pa_nil))))
        (pss_cons (ps_set (i := 5) scFr.nd rfl (.inl rfl) (pe_callTy (r := rTupF K) call_tupF (by rfl) B.tup (by decide +kernel) (pa_cons (pe_lc (own := [("_law_name", 8)]) (g := gName 8) (tt := tYes) rfl scFr.nd (pi_list (pv 3)) (blkOk_by (own := [("_law_name", 8)]) (N := nmFr) (sc := defScope sFr) (by decide +kernel)) (fun _ _ _ _ _ => (pg_name (i := 8) scFr.nd rfl (Or.inl rfl))) (fun _ _ _ _ _ => pts_nil) (fun _ _ _ _ _ => (pe_tup (pa_cons (pv 8) (pa_cons (pe_op op_add pe_int (pe_call GO hr (by rfl) gO kO bO .nil pass0 (pa_cons (pv 0) (pa_cons (pe_lst (pa_cons pe_int (pa_cons pe_int (pa_cons pe_int (pa_cons pe_int (pa_cons pe_int pa_nil)))))) pa_nil)))) pa_nil))))) pa_nil)))
        (pss_cons (ps_set (i := 6) scFr.nd rfl (.inl rfl) (pe_callTy (r := rTupF K) call_tupF (by rfl) B.tup (by decide +kernel) (pa_cons (pe_lc (own := [("_law_name", 8)]) (g := gName 8) (tt := tYes) rfl scFr.nd (pi_list (pv 4)) (blkOk_by (own := [("_law_name", 8)]) (N := nmFr) (sc := defScope sFr) (by decide +kernel)) (fun _ _ _ _ _ => (pg_name (i := 8) scFr.nd rfl (Or.inl rfl))) (fun _ _ _ _ _ => pts_nil) (fun _ _ _ _ _ => (pe_tup (pa_cons (pv 8) (pa_cons (pe_op op_add pe_int (pe_call GO hr (by rfl) gO kO bO .nil pass0 (pa_cons (pv 0) (pa_cons (pe_lst (pa_cons pe_int (pa_cons pe_int (pa_cons pe_int (pa_cons pe_int (pa_cons pe_int pa_nil)))))) pa_nil)))) pa_nil))))) pa_nil)))
        (pss_cons (ps_set (i := 7) scFr.nd rfl (.inl rfl) (pe_call GO hr (by rfl) gO kO bO .nil pass0 (pa_cons (pv 0) (pa_cons (pe_lst (pa_cons pe_non (pa_cons pe_non (pa_cons (pe_op op_add pe_int (pe_call GK hr (by rfl) gK kK bK .nil pass0 (pa_cons (pv 0) (pa_cons pe_int pa_nil)))) (pa_cons pe_int pa_nil))))) pa_nil))))
        (pss_one (ps_ret (pe_tup (pa_cons pe_str (pa_cons (pe_op op_add pe_int (pe_call GK hr (by rfl) gK kK bK .nil pass0 (pa_cons (pv 0) (pa_cons pe_int pa_nil)))) (pa_cons (pe_call GO hr (by rfl) gO kO bO .nil pass0 (pa_cons (pv 0) (pa_cons (pe_lst (pa_cons pe_int (pa_cons pe_int (pa_cons (pe_call GK hr (by rfl) gK kK bK .nil pass0 (pa_cons (pv 0) (pa_cons pe_int pa_nil))) pa_nil)))) pa_nil))) (pa_cons (pv 5) (pa_cons (pv 6) (pa_cons (pv 7) pa_nil)))))))))))))))), ?_⟩
    -- 1
    refine ⟨_, rfl, i, ins, rfl, SqL.of ((Kp.refl H).keep _ _ nd_strs hi), by omega, fun ys1 qs1 pm1 so1 ns1 => ?_⟩
    have ss1 := same_upd (o := .lst (ys1.map V.str)) ns1
    have hqs1 : (upd H qs1 (.lst (ys1.map V.str))) qs1 = some (.lst (ys1.map V.str)) := upd_same
    have kq1 := (Kp.refl H).trans (Kp.of ss1)
    have dq1 := dl.same ss1
    have ly1 := pm1.length_eq
    generalize (upd H qs1 (.lst (ys1.map V.str))) = HQ1 at *
    refine ⟨qs1, rfl, ⟨_, SqL.of hqs1⟩, fun D1 nD1 => ?_⟩
    have sD1 := same_upd (o := .lst []) nD1
    have np1 := dq1.ne nD1
    have nl1 := dq1.nl nD1
    refine lc_list (K := K) (a := qs1) (xs := ys1.map V.str) (fun j H' => ∃ sel : List Str, Kp HQ1 H' ∧ Deal H' p l ∧ H' D1 = some (.lst (sel.map V.str)) ∧ sel.Sublist (ys1.take j))
      ⟨[], Kp.of sD1, dq1.same sD1, upd_same, List.nil_sublist _⟩ (fun j H' _ ⟨_, kp', _⟩ => SqL.of (kp'.keep _ _ nd_strs hqs1)) ?_ ?_
    · rintro j x H' hx ⟨sel, kp', dl', hD, sb⟩
      obtain ⟨nm, hnm, rfl⟩ := map_str_get hx
      have hjl := (List.getElem?_eq_some_iff.mp hnm).1
      have lsel : sel.length ≤ j := Nat.le_trans sb.length_le (by rw [List.length_take]; omega)
      refine ⟨rfl, ?_⟩
      refine ⟨_, rfl, p, l, 2, rfl, dl', by decide, lg (b := 11) (by decide) (by decide) (by decide), fun H2 r k2 dl2 r0 r1 => ?_⟩
      have hD2 := k2.keep _ _ nd_strs hD
      refine ⟨rfl, _, rfl, ite2 (fun e => ?_) (fun e => ?_)⟩
      · refine ⟨_, rfl, _, hD2, ?_, sel ++ [nm], (kp'.trans k2).put nD1, dl2.put np1 nl1, ?_, ?_⟩
        · rw [List.length_map]
          exact small1000 (by omega)
        · rw [upd_same, List.map_append]
          rfl
        · rw [List.take_add_one, hnm]
          exact sb.append (List.Sublist.refl _)
      · refine ⟨sel, kp'.trans k2, dl2, hD2, ?_⟩
        rw [List.take_add_one]
        exact sb.trans (List.sublist_append_left _ _)
    rintro HA1 ⟨sl1, ka1, dla1, hDa1, sb1⟩
    rw [List.length_map, List.take_length] at sb1
    have kb1 := kq1.trans ka1
    have slen1 := sb1.length_le
    have snd1 : sl1.Nodup := (pm1.nodup_iff.mpr ind).sublist sb1
    have sri1 : sl1.Pairwise LtS := (lts_of so1 (pm1.nodup_iff.mpr ind)).sublist sb1
    have sin1 : ∀ s ∈ sl1, s ∈ ins := fun s hs => pm1.subset (sb1.subset hs)
    refine ⟨fun σ' H' => ∃ (u : Addr) (us : List Str), σ' = [some (.ref p), some (.ref i), some (.ref o), some (.ref u), none, none, none, none, none] ∧ Kp HA1 H' ∧ Deal H' p l ∧ H' u = some (.lst (us.map V.str)) ∧ 1 ≤ us.length ∧ us.length ≤ 3 ∧ us.Nodup ∧ us.Pairwise LtS ∧ ∀ s ∈ us, s ∈ ins, ?_, ?_⟩
    · refine ⟨_, rfl, Nat.zero_le _, fun z nz => ?_⟩
      have sz := same_upd (o := .lst []) nz
      refine ⟨.list (sl1.map PyData.str), .list [], .lst (SqL.of (sz _ _ hDa1)) (strs_dp _), .lst (SqL.of upd_same) .nil, strs_shaped _ (fun n hn => ig n (sin1 n hn)), strs_shaped [] (fun n hn => by cases hn), _, rfl, ?_⟩
      rw [strs_eqv_nil]
      refine ite2 (fun e => ?_) (fun e => ?_)
      · refine ⟨_, rfl, D1, sl1, rfl, Kp.of sz, dla1.same sz, sz _ _ hDa1, ?_, by omega, snd1, sri1, sin1⟩
        cases sl1 with
        | nil => exact absurd e (by decide)
        | cons a r => exact Nat.succ_le_succ (Nat.zero_le _)
      · refine ⟨_, rfl, _, rfl, p, l, i, ins.map V.str, rfl, dla1.same sz, sz _ _ (kb1.keep _ _ nd_strs hi), nd_strs, by rw [List.length_map]; omega, by rw [List.length_map]; omega, fun H2 x hx2 k2 dl2 => ?_⟩
        obtain ⟨s1, hs1, rfl⟩ := List.mem_map.mp hx2
        refine ⟨(by show 1 ≤ sizeLine; decide), fun q2 nq2 => ?_⟩
        have s2 := same_upd (o := .lst [V.str s1]) nq2
        exact ⟨q2, [s1], rfl, ((Kp.of sz).trans k2).trans (Kp.of s2), dl2.same s2, upd_same, Nat.le_refl 1, (by show 1 ≤ 3; decide), List.nodup_cons.mpr ⟨List.not_mem_nil, List.nodup_nil⟩, List.pairwise_singleton _ _, fun s hs => by rw [List.mem_singleton.mp hs]; exact hs1⟩
    rintro σ' H1 ⟨u1, us1, rfl, kc1, dlc1, hu1, ul11, ul31, und1, uri1, uin1⟩
    have kz1 := kb1.trans kc1
    -- 2
    refine ⟨_, rfl, o, outs, rfl, SqL.of (kz1.keep _ _ nd_strs ho), by omega, fun ys2 qs2 pm2 so2 ns2 => ?_⟩
    have ss2 := same_upd (o := .lst (ys2.map V.str)) ns2
    have hqs2 : (upd H1 qs2 (.lst (ys2.map V.str))) qs2 = some (.lst (ys2.map V.str)) := upd_same
    have kq2 := kz1.trans (Kp.of ss2)
    have dq2 := dlc1.same ss2
    have ly2 := pm2.length_eq
    generalize (upd H1 qs2 (.lst (ys2.map V.str))) = HQ2 at *
    refine ⟨qs2, rfl, ⟨_, SqL.of hqs2⟩, fun D1 nD1 => ?_⟩
    have sD1 := same_upd (o := .lst []) nD1
    have np1 := dq2.ne nD1
    have nl1 := dq2.nl nD1
    refine lc_list (K := K) (a := qs2) (xs := ys2.map V.str) (fun j H' => ∃ sel : List Str, Kp HQ2 H' ∧ Deal H' p l ∧ H' D1 = some (.lst (sel.map V.str)) ∧ sel.Sublist (ys2.take j))
      ⟨[], Kp.of sD1, dq2.same sD1, upd_same, List.nil_sublist _⟩ (fun j H' _ ⟨_, kp', _⟩ => SqL.of (kp'.keep _ _ nd_strs hqs2)) ?_ ?_
    · rintro j x H' hx ⟨sel, kp', dl', hD, sb⟩
      obtain ⟨nm, hnm, rfl⟩ := map_str_get hx
      have hjl := (List.getElem?_eq_some_iff.mp hnm).1
      have lsel : sel.length ≤ j := Nat.le_trans sb.length_le (by rw [List.length_take]; omega)
      refine ⟨rfl, ?_⟩
      refine ⟨_, rfl, p, l, 2, rfl, dl', by decide, lg (b := 11) (by decide) (by decide) (by decide), fun H2 r k2 dl2 r0 r1 => ?_⟩
      have hD2 := k2.keep _ _ nd_strs hD
      refine ⟨rfl, _, rfl, ite2 (fun e => ?_) (fun e => ?_)⟩
      · refine ⟨_, rfl, _, hD2, ?_, sel ++ [nm], (kp'.trans k2).put nD1, dl2.put np1 nl1, ?_, ?_⟩
        · rw [List.length_map]
          exact small1000 (by omega)
        · rw [upd_same, List.map_append]
          rfl
        · rw [List.take_add_one, hnm]
          exact sb.append (List.Sublist.refl _)
      · refine ⟨sel, kp'.trans k2, dl2, hD2, ?_⟩
        rw [List.take_add_one]
        exact sb.trans (List.sublist_append_left _ _)
    rintro HA2 ⟨sl2, ka2, dla2, hDa2, sb2⟩
    rw [List.length_map, List.take_length] at sb2
    have kb2 := kq2.trans ka2
    have slen2 := sb2.length_le
    have snd2 : sl2.Nodup := (pm2.nodup_iff.mpr ond).sublist sb2
    have sri2 : sl2.Pairwise LtS := (lts_of so2 (pm2.nodup_iff.mpr ond)).sublist sb2
    have sin2 : ∀ s ∈ sl2, s ∈ outs := fun s hs => pm2.subset (sb2.subset hs)
    refine ⟨fun σ' H' => ∃ (u : Addr) (us : List Str), σ' = [some (.ref p), some (.ref i), some (.ref o), some (.ref u1), some (.ref u), none, none, none, none] ∧ Kp HA2 H' ∧ Deal H' p l ∧ H' u = some (.lst (us.map V.str)) ∧ 1 ≤ us.length ∧ us.length ≤ 3 ∧ us.Nodup ∧ us.Pairwise LtS ∧ ∀ s ∈ us, s ∈ outs, ?_, ?_⟩
    · refine ⟨_, rfl, Nat.zero_le _, fun z nz => ?_⟩
      have sz := same_upd (o := .lst []) nz
      refine ⟨.list (sl2.map PyData.str), .list [], .lst (SqL.of (sz _ _ hDa2)) (strs_dp _), .lst (SqL.of upd_same) .nil, strs_shaped _ (fun n hn => og n (sin2 n hn)), strs_shaped [] (fun n hn => by cases hn), _, rfl, ?_⟩
      rw [strs_eqv_nil]
      refine ite2 (fun e => ?_) (fun e => ?_)
      · refine ⟨_, rfl, D1, sl2, rfl, Kp.of sz, dla2.same sz, sz _ _ hDa2, ?_, by omega, snd2, sri2, sin2⟩
        cases sl2 with
        | nil => exact absurd e (by decide)
        | cons a r => exact Nat.succ_le_succ (Nat.zero_le _)
      · refine ⟨_, rfl, _, rfl, p, l, o, outs.map V.str, rfl, dla2.same sz, sz _ _ (kb2.keep _ _ nd_strs ho), nd_strs, by rw [List.length_map]; omega, by rw [List.length_map]; omega, fun H2 x hx2 k2 dl2 => ?_⟩
        obtain ⟨s1, hs1, rfl⟩ := List.mem_map.mp hx2
        refine ⟨(by show 1 ≤ sizeLine; decide), fun q2 nq2 => ?_⟩
        have s2 := same_upd (o := .lst [V.str s1]) nq2
        exact ⟨q2, [s1], rfl, ((Kp.of sz).trans k2).trans (Kp.of s2), dl2.same s2, upd_same, Nat.le_refl 1, (by show 1 ≤ 3; decide), List.nodup_cons.mpr ⟨List.not_mem_nil, List.nodup_nil⟩, List.pairwise_singleton _ _, fun s hs => by rw [List.mem_singleton.mp hs]; exact hs1⟩
    rintro σ' H2 ⟨u2, us2, rfl, kc2, dlc2, hu2, ul12, ul32, und2, uri2, uin2⟩
    have kz2 := kb2.trans kc2
    -- pairs of us1
    have hu1' : H2 u1 = some (.lst (us1.map V.str)) := ((Kp.of ss2).trans (ka2.trans kc2)).keep _ _ nd_strs hu1
    refine ⟨_, rfl, u1, rfl, ⟨_, SqL.of hu1'⟩, fun D2 nD2 => ?_⟩
    have sD2 := same_upd (o := .lst []) nD2
    have np2 := dlc2.ne nD2
    have nl2 := dlc2.nl nD2
    refine lc_list (K := K) (a := u1) (xs := us1.map V.str) (fun j H' => ∃ (vs : List V) (ps : List (Str × Int)), Kp H2 H' ∧ Deal H' p l ∧ H' D2 = some (.lst vs) ∧ Paired (PairAt H') vs ps ∧ ps.map (·.1) = us1.take j ∧ ∀ q ∈ ps, 1 ≤ q.2 ∧ q.2 ≤ 4)
      ⟨[], [], Kp.of sD2, dlc2.same sD2, upd_same, .nil, by rw [List.take_zero]; rfl, (fun q hq => by cases hq)⟩ (fun j H' _ ⟨_, _, kp', _⟩ => SqL.of (kp'.keep _ _ nd_strs hu1')) ?_ ?_
    · rintro j x H' hx ⟨vs, ps, kp', dl', hD, pp, pn, pv'⟩
      obtain ⟨nm, hnm, rfl⟩ := map_str_get hx
      have hjl := (List.getElem?_eq_some_iff.mp hnm).1
      have lv := pp.length
      have lps : ps.length = j := by
        have := congrArg List.length pn
        rw [List.length_map, List.length_take] at this
        omega
      refine ⟨rfl, ?_⟩
      refine ⟨_, rfl, _, rfl, (by show 5 ≤ sizeLine; decide), fun c nc => ?_⟩
      have sc := same_upd (o := .lst (([0, 0, 1, 3, 2] : List Int).map V.int)) nc
      refine ⟨p, l, c, ([0, 0, 1, 3, 2] : List Int).map V.int, rfl, dl'.same sc, upd_same, nd_ints, by decide, by decide, fun H2 x hx2 k2 dl2 => ?_⟩
      obtain ⟨r, hr2, rfl⟩ := List.mem_map.mp hx2
      have rb : 0 ≤ r ∧ r ≤ 3 := by
        simp only [List.mem_cons, List.not_mem_nil, or_false] at hr2
        omega
      have kk := (Kp.of sc).trans k2
      refine ⟨_, _, rfl, rfl, (by show 2 ≤ sizeLine; decide), fun T nT => ?_⟩
      have sT := same_upd (o := .tup [.str nm, .int (1 + r)]) nT
      have kT := kk.trans (Kp.of sT)
      have hDT := kT.keep _ _ (nd_pairs pp) hD
      refine ⟨_, hDT, small1000 (by omega), vs ++ [.ref T], ps ++ [(nm, 1 + r)], (kp'.trans kT).put nD2, (dl2.same sT).put np2 nl2, upd_same, ?_, ?_, ?_⟩
      · have nTD : T ≠ D2 := ne_of_fresh (kk.keep _ _ (nd_pairs pp) hD) nT
        have keepT : ∀ v q, PairAt H' v q → PairAt (upd (upd H2 T (.tup [.str nm, .int (1 + r)])) D2 (.lst (vs ++ [.ref T]))) v q := fun v q ⟨a, e, h⟩ => by
          have na : a ≠ D2 := fun z => by
            rw [z, hD] at h
            cases h
          exact ⟨a, e, by rw [upd_ne na]; exact kT.keep _ _ nd_tup h⟩
        exact paired_snoc (paired_mono keepT pp) ⟨T, rfl, by rw [upd_ne nTD]; exact upd_same⟩
      · rw [List.map_append, pn, List.take_add_one, hnm]
        rfl
      · intro q hq
        rcases List.mem_append.mp hq with h | h
        · exact pv' q h
        · rw [List.mem_singleton.mp h]
          exact ⟨by show 1 ≤ 1 + r; omega, by show 1 + r ≤ 4; omega⟩
    rintro HP3 ⟨vs3, ps3, kp3, dlp3, hDp3, pp3, pn3, pv3⟩
    rw [List.length_map, List.take_length] at pn3
    have pl3 : ps3.length = us1.length := by
      have := congrArg List.length pn3
      rw [List.length_map] at this
      exact this
    refine ⟨D2, vs3, rfl, .inl ⟨SqL.of hDp3, fun t3 o3 nt3 dn3 => ?_⟩⟩
    have st3 := same_upd (o := .frz o3 (.tup vs3)) nt3
    have kr3 := kp3.trans (Kp.of st3)
    have dr3 := dlp3.same st3
    have pa3 : PairsAt (upd HP3 t3 (.frz o3 (.tup vs3))) t3 ps3 := ⟨_, ⟨o3, dn3, upd_same⟩, paired_mono (fun _ _ => PairAt.kp (Kp.of st3)) pp3⟩
    generalize (upd HP3 t3 (.frz o3 (.tup vs3))) = H3 at *
    -- pairs of us2
    have hu2' : H3 u2 = some (.lst (us2.map V.str)) := kr3.keep _ _ nd_strs hu2
    refine ⟨_, rfl, u2, rfl, ⟨_, SqL.of hu2'⟩, fun D2 nD2 => ?_⟩
    have sD2 := same_upd (o := .lst []) nD2
    have np2 := dr3.ne nD2
    have nl2 := dr3.nl nD2
    refine lc_list (K := K) (a := u2) (xs := us2.map V.str) (fun j H' => ∃ (vs : List V) (ps : List (Str × Int)), Kp H3 H' ∧ Deal H' p l ∧ H' D2 = some (.lst vs) ∧ Paired (PairAt H') vs ps ∧ ps.map (·.1) = us2.take j ∧ ∀ q ∈ ps, 1 ≤ q.2 ∧ q.2 ≤ 4)
      ⟨[], [], Kp.of sD2, dr3.same sD2, upd_same, .nil, by rw [List.take_zero]; rfl, (fun q hq => by cases hq)⟩ (fun j H' _ ⟨_, _, kp', _⟩ => SqL.of (kp'.keep _ _ nd_strs hu2')) ?_ ?_
    · rintro j x H' hx ⟨vs, ps, kp', dl', hD, pp, pn, pv'⟩
      obtain ⟨nm, hnm, rfl⟩ := map_str_get hx
      have hjl := (List.getElem?_eq_some_iff.mp hnm).1
      have lv := pp.length
      have lps : ps.length = j := by
        have := congrArg List.length pn
        rw [List.length_map, List.length_take] at this
        omega
      refine ⟨rfl, ?_⟩
      refine ⟨_, rfl, _, rfl, (by show 5 ≤ sizeLine; decide), fun c nc => ?_⟩
      have sc := same_upd (o := .lst (([0, 0, 1, 3, 2] : List Int).map V.int)) nc
      refine ⟨p, l, c, ([0, 0, 1, 3, 2] : List Int).map V.int, rfl, dl'.same sc, upd_same, nd_ints, by decide, by decide, fun H2 x hx2 k2 dl2 => ?_⟩
      obtain ⟨r, hr2, rfl⟩ := List.mem_map.mp hx2
      have rb : 0 ≤ r ∧ r ≤ 3 := by
        simp only [List.mem_cons, List.not_mem_nil, or_false] at hr2
        omega
      have kk := (Kp.of sc).trans k2
      refine ⟨_, _, rfl, rfl, (by show 2 ≤ sizeLine; decide), fun T nT => ?_⟩
      have sT := same_upd (o := .tup [.str nm, .int (1 + r)]) nT
      have kT := kk.trans (Kp.of sT)
      have hDT := kT.keep _ _ (nd_pairs pp) hD
      refine ⟨_, hDT, small1000 (by omega), vs ++ [.ref T], ps ++ [(nm, 1 + r)], (kp'.trans kT).put nD2, (dl2.same sT).put np2 nl2, upd_same, ?_, ?_, ?_⟩
      · have nTD : T ≠ D2 := ne_of_fresh (kk.keep _ _ (nd_pairs pp) hD) nT
        have keepT : ∀ v q, PairAt H' v q → PairAt (upd (upd H2 T (.tup [.str nm, .int (1 + r)])) D2 (.lst (vs ++ [.ref T]))) v q := fun v q ⟨a, e, h⟩ => by
          have na : a ≠ D2 := fun z => by
            rw [z, hD] at h
            cases h
          exact ⟨a, e, by rw [upd_ne na]; exact kT.keep _ _ nd_tup h⟩
        exact paired_snoc (paired_mono keepT pp) ⟨T, rfl, by rw [upd_ne nTD]; exact upd_same⟩
      · rw [List.map_append, pn, List.take_add_one, hnm]
        rfl
      · intro q hq
        rcases List.mem_append.mp hq with h | h
        · exact pv' q h
        · rw [List.mem_singleton.mp h]
          exact ⟨by show 1 ≤ 1 + r; omega, by show 1 + r ≤ 4; omega⟩
    rintro HP4 ⟨vs4, ps4, kp4, dlp4, hDp4, pp4, pn4, pv4⟩
    rw [List.length_map, List.take_length] at pn4
    have pl4 : ps4.length = us2.length := by
      have := congrArg List.length pn4
      rw [List.length_map] at this
      exact this
    refine ⟨D2, vs4, rfl, .inl ⟨SqL.of hDp4, fun t4 o4 nt4 dn4 => ?_⟩⟩
    have st4 := same_upd (o := .frz o4 (.tup vs4)) nt4
    have kr4 := kp4.trans (Kp.of st4)
    have dr4 := dlp4.same st4
    have pa4 : PairsAt (upd HP4 t4 (.frz o4 (.tup vs4))) t4 ps4 := ⟨_, ⟨o4, dn4, upd_same⟩, paired_mono (fun _ _ => PairAt.kp (Kp.of st4)) pp4⟩
    generalize (upd HP4 t4 (.frz o4 (.tup vs4))) = H4 at *
    -- the bound
    refine ⟨_, rfl, _, rfl, p, l, 6, rfl, dr4, by decide, lg (b := 11) (by decide) (by decide) (by decide), fun H5 r5 k5 dl5 a0 a1 => ?_⟩
    refine ⟨_, _, rfl, rfl, (by show 4 ≤ sizeLine; decide), fun c6 nc6 => ?_⟩
    have sc6 := same_upd (o := .lst [V.non, V.non, V.int (1 + r5), V.int 1]) nc6
    refine ⟨p, l, c6, [V.non, V.non, V.int (1 + r5), V.int 1], rfl, dl5.same sc6, upd_same, nd_lst (fun x r e a => by cases e; intro z; cases z), (by show 0 < 4; decide), (by show 4 ≤ 1000; decide), fun H6 x6 hx6 k6 dl6 => ?_⟩
    obtain ⟨mo, rfl, hmo⟩ : ∃ mo : Option Int, x6 = moV mo ∧ ∀ k, mo = some k → 1 ≤ k ∧ k ≤ 6 := by
      simp only [List.mem_cons, List.not_mem_nil, or_false] at hx6
      rcases hx6 with rfl | rfl | rfl | rfl
      · exact ⟨none, rfl, fun k e => by cases e⟩
      · exact ⟨none, rfl, fun k e => by cases e⟩
      · exact ⟨some (1 + r5), rfl, fun k e => by cases e; omega⟩
      · exact ⟨some 1, rfl, fun k e => by cases e; omega⟩
    have k46 := k5.trans ((Kp.of sc6).trans k6)
    -- the rule
    refine ⟨_, rfl, p, l, 6, rfl, dl6, by decide, lg (b := 11) (by decide) (by decide) (by decide), fun H7 r7 k7 dl7 b0 b1 => ?_⟩
    refine ⟨_, _, rfl, rfl, _, rfl, _, rfl, p, l, 13, rfl, dl7, by decide, lg (b := 11) (by decide) (by decide) (by decide), fun H8 r8 k8 dl8 c0 c1 => ?_⟩
    refine ⟨(by show 3 ≤ sizeLine; decide), fun c9 nc9 => ?_⟩
    have sc9 := same_upd (o := .lst [V.int 0, V.int 0, V.int r8]) nc9
    refine ⟨p, l, c9, [V.int 0, V.int 0, V.int r8], rfl, dl8.same sc9, upd_same, nd_lst (fun x r e a => by cases e; intro z; cases z), (by show 0 < 3; decide), (by show 3 ≤ 1000; decide), fun H9 x9 hx9 k9 dl9 => ?_⟩
    obtain ⟨ea, rfl, ea0, ea12⟩ : ∃ ea : Int, x9 = .int ea ∧ 0 ≤ ea ∧ ea ≤ 12 := by
      simp only [List.mem_cons, List.not_mem_nil, or_false] at hx9
      rcases hx9 with rfl | rfl | rfl
      · exact ⟨0, rfl, by omega, by omega⟩
      · exact ⟨0, rfl, by omega, by omega⟩
      · exact ⟨r8, rfl, by omega, by omega⟩
    refine ⟨_, rfl, _, rfl, _, rfl, (by show 6 ≤ sizeLine; decide), fun t nt => ?_⟩
    have sF := same_upd (o := .tup [.str "each", .int (1 + r7), .int ea, .ref t3, .ref t4, moV mo]) nt
    have k4F := ((k46.trans k7).trans k8).trans (((Kp.of sc9).trans k9).trans (Kp.of sF))
    refine q _ _ ⟨1 + r7, ea, mo, ps3, ps4⟩ ((((kz2.trans kr3).trans kr4)).trans k4F) (dl9.same sF) ⟨t, t3, t4, rfl, upd_same, (pa3.kp kr4).kp k4F, pa4.kp k4F⟩ ⟨⟨by show 1 ≤ 1 + r7; omega, by show 1 + r7 ≤ 6; omega⟩, ⟨ea0, ea12⟩, hmo, ?_, ?_, ?_, (fun p hp => ⟨by have := pv3 p hp; omega, (pv3 p hp).2⟩), ?_, (by show (ps3.map (·.1)).Pairwise LtS; rw [pn3]; exact uri1), (fun p hp => (pv3 p hp).1), ?_, ?_, ?_, (fun p hp => ⟨by have := pv4 p hp; omega, (pv4 p hp).2⟩), ?_, (by show (ps4.map (·.1)).Pairwise LtS; rw [pn4]; exact uri2), (fun p hp => (pv4 p hp).1)⟩ (fun p hp => uin1 _ (pn3 ▸ List.mem_map_of_mem (f := (·.1)) hp)) (fun p hp => uin2 _ (pn4 ▸ List.mem_map_of_mem (f := (·.1)) hp))
    · show 1 ≤ ps3.length; omega
    · show ps3.length ≤ 3; omega
    · show (ps3.map (·.1)).Nodup; rw [pn3]; exact und1
    · intro z hz
      have h1 : z.1 ∈ ps3.map (·.1) := List.mem_map_of_mem hz
      rw [pn3] at h1
      exact ig _ (uin1 _ h1)
    · show 1 ≤ ps4.length; omega
    · show ps4.length ≤ 3; omega
    · show (ps4.map (·.1)).Nodup; rw [pn4]; exact und2
    · intro z hz
      have h1 : z.1 ∈ ps4.map (·.1) := List.mem_map_of_mem hz
      rw [pn4] at h1
      exact og _ (uin2 _ h1)
end
end Hl

set_option Elab.async false
set_option linter.all false
set_option maxRecDepth 100000
set_option maxHeartbeats 4000000
namespace Hl
open PySem PySem.Spec PyProof.Rows L2
abbrev sAr : Stmt := topS 49
/-- rows of texts, each once and in order, are one if they hold the same -/
theorem sorted_one : ∀ {l m : List Str}, l.Nodup → m.Nodup → sortedS l = true → sortedS m = true → (∀ x, x ∈ l ↔ x ∈ m) → l = m := by
  intro l m hl hm sl sm e
  have pl := sorted_pw sl
  have pm := sorted_pw sm
  clear sl sm
  induction l generalizing m with
  | nil =>
    cases m with
    | nil => rfl
    | cons y r => exact absurd ((e y).mpr List.mem_cons_self) List.not_mem_nil
  | cons x l ih =>
    cases m with
    | nil => exact absurd ((e x).mp List.mem_cons_self) List.not_mem_nil
    | cons y r =>
      obtain ⟨a1, a2⟩ := List.pairwise_cons.mp pl
      obtain ⟨b1, b2⟩ := List.pairwise_cons.mp pm
      obtain ⟨n1, n2⟩ := List.nodup_cons.mp hl
      obtain ⟨n3, n4⟩ := List.nodup_cons.mp hm
      have xy : x = y := by
        rcases List.mem_cons.mp ((e x).mp List.mem_cons_self) with h | h
        · exact h
        · rcases List.mem_cons.mp ((e y).mpr List.mem_cons_self) with h' | h'
          · exact h'.symm
          · exact str_ext (List.le_antisymm (a1 y h') (b1 x h))
      subst xy
      rw [ih n2 n4 (fun z => ?_) a2 b2]
      constructor
      · intro hz
        rcases List.mem_cons.mp ((e z).mp (List.mem_cons_of_mem _ hz)) with h | h
        · exact absurd (h ▸ hz) n1
        · exact h
      · intro hz
        rcases List.mem_cons.mp ((e z).mpr (List.mem_cons_of_mem _ hz)) with h | h
        · exact absurd (h ▸ hz) n3
        · exact h
theorem RuleAt.put {H : Hp} {v : V} {r : Rl} {D : Addr} {xs : List V} {o : HO} (h : RuleAt H v r) (hD : H D = some (.lst xs)) : RuleAt (upd H D o) v r := by
  have ne : ∀ {b : Addr} {u : HO}, H b = some u → u ≠ .lst xs → b ≠ D := fun e n z => by
    rw [z, hD] at e
    exact n (Option.some.inj e).symm
  have pr : ∀ {t : Addr} {ps : List (Str × Int)}, PairsAt H t ps → PairsAt (upd H D o) t ps := fun ⟨vs, ⟨u, d, e⟩, p⟩ =>
    ⟨vs, ⟨u, d, by rw [upd_ne (ne e (fun z => by cases z))]; exact e⟩, paired_mono (fun _ _ ⟨a, e1, e2⟩ => ⟨a, e1, by rw [upd_ne (ne e2 (fun z => by cases z))]; exact e2⟩) p⟩
  obtain ⟨t, wt, gt, e, h, h1, h2⟩ := h
  exact ⟨t, wt, gt, e, by rw [upd_ne (ne h (fun z => by cases z))]; exact h, pr h1, pr h2⟩
theorem refs_of_rules {H : Hp} : ∀ {vs : List V} {rs : List Rl}, Paired (RuleAt H) vs rs → ∃ as : List Addr, vs = as.map V.ref
  | _, _, .nil => ⟨[], rfl⟩
  | _, _, .cons ⟨a, _, _, e, _⟩ r => by
    obtain ⟨as, h⟩ := refs_of_rules r
    exact ⟨a :: as, by rw [e, h]; rfl⟩
theorem nd_rules {H : Hp} {vs : List V} {rs : List Rl} (h : Paired (RuleAt H) vs rs) : Nd (.lst vs) := by
  obtain ⟨as, rfl⟩ := refs_of_rules h
  exact nd_refs
theorem inV_mem {n : Str} : ∀ {ns : List Str}, inV (.str n) (ns.map V.str) = decide (n ∈ ns)
  | [] => by simp [inV]
  | m :: ns => by
    have ih := inV_mem (n := n) (ns := ns)
    unfold inV at ih ⊢
    rw [List.map_cons, List.any_cons, ih]
    by_cases e : n = m
    · subst e
      simp [eqV]
    · have e' : ¬ m = n := fun z => e z.symm
      simp [eqV, e, e']
/-- the pairs at a place of a rule -/
def prF (r : Rl) (pl : Int) : List (Str × Int) := if pl = 3 then r.ws else r.gs
/-- the names at a place of the rules, in order, each once -/
structure NmF (rs : List Rl) (pl : Int) (ys : List Str) : Prop where
  nd : ys.Nodup
  so : sortedS ys = true
  me : ∀ x, x ∈ ys ↔ ∃ r ∈ rs, x ∈ (prF r pl).map (·.1)
  le : ys.length ≤ 3 * rs.length
theorem NmF.one {rs : List Rl} {pl : Int} {ys zs : List Str} (h : NmF rs pl ys) (h' : NmF rs pl zs) : ys = zs := sorted_one h.nd h'.nd h.so h'.so fun x => (h.me x).trans (h'.me x).symm
structure Rls (rs : List Rl) : Prop where
  n1 : 1 ≤ rs.length
  n12 : rs.length ≤ 12
  ok : ∀ r ∈ rs, OkR r
  few : ∃ ins outs : List Str, ins.length ≤ 3 ∧ outs.length ≤ 3 ∧ ∀ r ∈ rs, (∀ p ∈ r.ws, p.1 ∈ ins) ∧ ∀ p ∈ r.gs, p.1 ∈ outs
theorem Rls.pr {rs : List Rl} (h : Rls rs) {r : Rl} (hr : r ∈ rs) (pl : Int) : 1 ≤ (prF r pl).length ∧ (prF r pl).length ≤ 3 ∧ ((prF r pl).map (·.1)).Nodup ∧ ∀ p ∈ prF r pl, Good p.1 := by
  have o := h.ok r hr
  unfold prF
  split
  · exact ⟨o.w1, o.w3, o.wn, o.wg⟩
  · exact ⟨o.g1, o.g3, o.gn, o.gg⟩
section
variable {P : Program} {w : World} {K : PySem.W.Frag} {mg : Str → Option Value} {base : Heap}
def spAr : Sp := fun vs H Q _ => ∃ (p l : Addr), vs = [.ref p] ∧ Deal H p l ∧ ∀ (H' : Hp) (a : Addr) (vr : List V) (rs : List Rl), Kp H H' → Deal H' p l → H' a = some (.lst vr) → Paired (RuleAt H') vr rs → Rls rs → Q (.ref a) H'
abbrev nmAr : List Str := ["_law_deal_here", "_law_ins", "_law_outs", "_law_k"]
theorem scAr : FnScope nmAr ["_law_deal_here"] (defScope sAr) := ⟨rfl, rfl, rfl, by decide +kernel, rfl, by decide +kernel, by decide +kernel⟩
theorem ok_ar {f fK fO fN fR : Addr} {fd fdK fdO fdN fdR : FuncData} {k : Nat} (F : Fun K "_law_any_rules" "_law_any_rules" sAr f fd)
    (GK : FnOk P w K mg base CX0 k fK fdK ["_law_deal_here", "_law_many"] spPick) (kK : PySem.W.keepIn K (.ref fK) = true) (bK : Binds K fdK ["_law_deal_here", "_law_many"] []) (gK : mg "_law_pick" = some (.ref fK))
    (GO : FnOk P w K mg base CX0 k fO fdO ["_law_deal_here", "_law_some"] spOf) (kO : PySem.W.keepIn K (.ref fO) = true) (bO : Binds K fdO ["_law_deal_here", "_law_some"] []) (gO : mg "_law_of" = some (.ref fO))
    (GN : FnOk P w K mg base CX0 k fN fdN ["_law_deal_here", "_law_many"] spNames) (kN : PySem.W.keepIn K (.ref fN) = true) (bN : Binds K fdN ["_law_deal_here", "_law_many"] []) (gN : mg "_law_names" = some (.ref fN))
    (GR : FnOk P w K mg base CX0 k fR fdR ["_law_deal_here", "_law_ins", "_law_outs"] spFr) (kR : PySem.W.keepIn K (.ref fR) = true) (bR : Binds K fdR ["_law_deal_here", "_law_ins", "_law_outs"] []) (gR : mg "_law_full_rule" = some (.ref fR)) (B : Bi mg) :
    FnOk P w K mg base CX0 (k + 1) f fd ["_law_deal_here"] spAr := by
  refine F.ok scAr (fun vs H Q E h => ?_) (fun cdv A outer s H vs Q E hr h => ?_)
  · obtain ⟨p, l, rfl, _⟩ := h
    rfl
  · obtain ⟨p, l, rfl, dl, q⟩ := h
    refine ⟨_, (pss_cons (ps_asg (pe_tup (pa_cons (pe_call GN hr (by rfl) gN kN bN .nil pass0 (pa_cons (pv 0) (pa_cons (pe_op op_add pe_int (pe_call GK hr (by rfl) gK kK bK .nil pass0 (pa_cons (pv 0) (pa_cons pe_int pa_nil)))) pa_nil))) (pa_cons (pe_call GN hr (by rfl) gN kN bN .nil pass0 (pa_cons (pv 0) (pa_cons (pe_op op_add pe_int (pe_call GK hr (by rfl) gK kK bK .nil pass0 (pa_cons (pv 0) (pa_cons pe_int pa_nil)))) pa_nil))) pa_nil))) (pg_tup rfl (pgs_cons (pg_name (i := 1) scAr.nd rfl (.inr rfl)) (pgs_cons (pg_name (i := 2) scAr.nd rfl (.inr rfl)) pgs_nil))))
        (pss_one (ps_ret (pe_lc (own := [("_law_k", 3)]) (g := gName 3) (tt := tYes) rfl scAr.nd (pi_range1 (by rfl) B.rng (pa_cons (pe_call GO hr (by rfl) gO kO bO .nil pass0 (pa_cons (pv 0) (pa_cons (pe_lst (pa_cons pe_int (pa_cons pe_int (pa_cons pe_int (pa_cons pe_int (pa_cons pe_int (pa_cons (pe_op op_add pe_int (pe_call GK hr (by rfl) gK kK bK .nil pass0 (pa_cons (pv 0) (pa_cons pe_int pa_nil)))) pa_nil))))))) pa_nil))) pa_nil)) (blkOk_by (own := [("_law_k", 3)]) (N := nmAr) (sc := defScope sAr) (by decide +kernel)) (fun _ _ _ _ _ => (pg_name (i := 3) scAr.nd rfl (Or.inl rfl))) (fun _ _ _ _ _ => pts_nil) (fun _ _ _ _ _ => (pe_call GR hr (by rfl) gR kR bR .nil pass0 (pa_cons (pv 0) (pa_cons (pv 1) (pa_cons (pv 2) pa_nil))))))))), ?_⟩
    refine ⟨_, rfl, _, rfl, p, l, 3, rfl, dl, by decide, lg (b := 11) (by decide) (by decide) (by decide), fun H1 r1 k1 dl1 a0 a1 => ?_⟩
    refine ⟨_, _, rfl, rfl, ?_⟩
    obtain ⟨m1, e1⟩ : ∃ m1 : Nat, 1 + r1 = (m1 : Int) := ⟨(1 + r1).toNat, by omega⟩
    refine ⟨p, l, m1, by dsimp only [List.append_nil]; rw [e1]; rfl, dl1, by omega, fun H2 i ins k2 dl2 ni hi li ind ig => ?_⟩
    refine ⟨_, rfl, _, rfl, p, l, 3, rfl, dl2, by decide, lg (b := 11) (by decide) (by decide) (by decide), fun H3 r3 k3 dl3 b0 b1 => ?_⟩
    refine ⟨_, _, rfl, rfl, ?_⟩
    obtain ⟨m3, e3⟩ : ∃ m3 : Nat, 1 + r3 = (m3 : Int) := ⟨(1 + r3).toNat, by omega⟩
    refine ⟨p, l, m3, by dsimp only [List.append_nil]; rw [e3]; rfl, dl3, by omega, fun H4 o outs k4 dl4 no ho lo ond og => ?_⟩
    refine ⟨(by show 2 ≤ sizeLine; decide), fun T nT => ?_⟩
    have sT := same_upd (o := .tup [.ref i, .ref o]) nT
    refine ⟨T, _, rfl, SqT.of upd_same, rfl, _, _, rfl, _, _, rfl, rfl, ?_⟩
    have kT := ((k1.trans k2).trans (k3.trans k4)).trans (Kp.of sT)
    have dT := dl4.same sT
    have hiT := (((k3.trans k4).trans (Kp.of sT)).keep _ _ nd_strs hi)
    have hoT := sT _ _ ho
    generalize (upd H4 T (.tup [.ref i, .ref o])) = H5 at *
    -- how many
    refine ⟨_, rfl, _, rfl, p, l, 12, rfl, dT, by decide, lg (b := 11) (by decide) (by decide) (by decide), fun H6 r6 k6 dl6 c0 c1 => ?_⟩
    refine ⟨_, _, rfl, rfl, (by show 6 ≤ sizeLine; decide), fun c nc => ?_⟩
    have sc := same_upd (o := .lst [V.int 1, V.int 1, V.int 2, V.int 3, V.int 12, V.int (1 + r6)]) nc
    refine ⟨p, l, c, [V.int 1, V.int 1, V.int 2, V.int 3, V.int 12, V.int (1 + r6)], rfl, dl6.same sc, upd_same, nd_lst (fun x r e a => by cases e; intro z; cases z), (by show 0 < 6; decide), (by show 6 ≤ 1000; decide), fun H7 x7 hx7 k7 dl7 => ?_⟩
    obtain ⟨n, rfl, n1, n12⟩ : ∃ n : Nat, x7 = .int (n : Int) ∧ 1 ≤ n ∧ n ≤ 12 := by
      simp only [List.mem_cons, List.not_mem_nil, or_false] at hx7
      rcases hx7 with rfl | rfl | rfl | rfl | rfl | rfl
      · exact ⟨1, rfl, by omega, by omega⟩
      · exact ⟨1, rfl, by omega, by omega⟩
      · exact ⟨2, rfl, by omega, by omega⟩
      · exact ⟨3, rfl, by omega, by omega⟩
      · exact ⟨12, rfl, by omega, by omega⟩
      · exact ⟨(1 + r6).toNat, by rw [Int.toNat_of_nonneg (by omega)], by omega, by omega⟩
    have k57 := k6.trans ((Kp.of sc).trans k7)
    have hi7 := k57.keep _ _ nd_strs hiT
    have ho7 := k57.keep _ _ nd_strs hoT
    refine ⟨(n : Int), rfl, by omega, by omega, fun D nD => ?_⟩
    have sD := same_upd (o := .lst []) nD
    have np := dl7.ne nD
    have nl := dl7.nl nD
    refine lc_range (lo := 0) (n := n) (fun j H' => ∃ (vr : List V) (rs : List Rl), Kp H7 H' ∧ Deal H' p l ∧ H' D = some (.lst vr) ∧ Paired (RuleAt H') vr rs ∧ rs.length = j ∧ (∀ r ∈ rs, OkR r) ∧ ∀ r ∈ rs, (∀ p ∈ r.ws, p.1 ∈ ins) ∧ ∀ p ∈ r.gs, p.1 ∈ outs)
      ⟨[], [], Kp.of sD, dl7.same sD, upd_same, .nil, rfl, (fun r hr => nomatch hr), (fun r hr => nomatch hr)⟩ ?_ ?_
    · rintro j H' hj ⟨vr, rs, kp', dl', hD, pp, lr, okr, fw⟩
      refine ⟨rfl, ?_⟩
      refine ⟨_, rfl, _, rfl, _, rfl, p, l, i, o, ins, outs, rfl, dl', kp'.keep _ _ nd_strs hi7, kp'.keep _ _ nd_strs ho7, by omega, by omega, by omega, by omega, ind, ond, ig, og, fun H2 v r k2 dl2 ra ok fi fo => ?_⟩
      have hD2 := k2.keep _ _ (nd_rules pp) hD
      have lv := pp.length
      refine ⟨_, hD2, small1000 (by omega), vr ++ [v], rs ++ [r], (kp'.trans k2).put nD, dl2.put np nl, upd_same, ?_, ?_, ?_, ?_⟩
      · exact paired_snoc (paired_mono (fun _ _ h => (h.kp k2).put hD2) pp) (ra.put hD2)
      · rw [List.length_append, List.length_singleton, lr]
      · intro z hz
        rcases List.mem_append.mp hz with h | h
        · exact okr z h
        · rw [List.mem_singleton.mp h]
          exact ok
      · intro z hz
        rcases List.mem_append.mp hz with h | h
        · exact fw z h
        · rw [List.mem_singleton.mp h]
          exact ⟨fi, fo⟩
    · rintro H' ⟨vr, rs, kp', dl', hD, pp, lr, okr, fw⟩
      exact q H' D vr rs ((kT.trans k57).trans kp') dl' hD pp ⟨by omega, by omega, okr, ins, outs, by omega, by omega, fw⟩
end
end Hl

set_option Elab.async false
set_option linter.all false
set_option maxRecDepth 100000
set_option maxHeartbeats 4000000
namespace Hl
open PySem PySem.Spec PyProof.Rows L2
theorem wipe_set {σ : L2.St} {i : Nat} {v : Option V} : ∀ {vs : List Nat}, i ∈ vs → wipe (σ.set i v) vs = wipe σ vs
  | j :: vs, h => by
    by_cases e : i ∈ vs
    · show (wipe (σ.set i v) vs).set j none = (wipe σ vs).set j none
      rw [wipe_set e]
    · have ij : i = j := (List.mem_cons.mp h).resolve_right e
      subst ij
      show (wipe (σ.set i v) vs).set i none = (wipe σ vs).set i none
      have key : ∀ (us : List Nat), (wipe (σ.set i v) us).set i none = (wipe σ us).set i none := by
        intro us
        induction us with
        | nil =>
          show (σ.set i v).set i none = σ.set i none
          rw [List.set_set]
        | cons a us ih =>
          show ((wipe (σ.set i v) us).set a none).set i none = ((wipe σ us).set a none).set i none
          by_cases ai : a = i
          · subst ai
            rw [List.set_set, List.set_set]
            exact ih
          · rw [List.set_comm _ _ ai, List.set_comm _ _ ai, ih]
      exact key vs
theorem wipe_wipe {σ : L2.St} {vs : List Nat} : wipe (wipe σ vs) vs = wipe σ vs := by
  have h : ∀ us : List Nat, (∀ i ∈ us, i ∈ vs) → wipe (wipe σ us) vs = wipe σ vs := by
    intro us
    induction us with
    | nil => intro _; rfl
    | cons a us ih =>
      intro h
      show wipe ((wipe σ us).set a none) vs = _
      rw [wipe_set (h a List.mem_cons_self)]
      exact ih fun i hi => h i (List.mem_cons_of_mem _ hi)
  exact h vs fun _ hi => hi
section
variable {P : Program} {w : World} {K : PySem.W.Frag} {mg : Str → Option Value} {base : Heap}
/-- the names at a place of the rules -/
def spNs (K : PySem.W.Frag) (pl : Int) : Sp := fun vs H Q _ => ∃ (a : Addr) (vr : List V) (rs : List Rl), vs = [.ref a] ∧ SqL K H a vr ∧ Paired (RuleAt H) vr rs ∧ Rls rs ∧ ∀ (H' : Hp) (q : Addr) (ys : List Str), Same H H' → H q = none → H' q = some (.lst (ys.map V.str)) → NmF rs pl ys → Q (.ref q) H'
abbrev sLo : Stmt := topS 39
abbrev nmLo : List Str := ["rules", "word", "every", "after", "weights", "gives", "most", "name", "weight"]
theorem scLo : FnScope nmLo ["rules"] (defScope sLo) := ⟨rfl, rfl, rfl, by decide +kernel, rfl, by decide +kernel, by decide +kernel⟩
theorem ok_lo {f : Addr} {fd : FuncData} {k : Nat} (F : Fun K "letters_of" "letters_of" sLo f fd) (J : Bj mg) : FnOk P w K mg base CX0 (k + 1) f fd ["rules"] (spNs K 3) := by
  refine F.ok scLo (fun vs H Q E h => ?_) (fun cdv A outer s H vs Q E hr h => ?_)
  · obtain ⟨a, vr, rs, rfl, _⟩ := h
    rfl
  · obtain ⟨a, vr, rs, rfl, ha, hR, rls, q⟩ := h
    refine ⟨_, (pss_one (ps_ret (pe_callB (r := Stx.rSortedTx P w) (Stx.cr_sortedTx rfl) (by rfl) J.sorted (by decide +kernel) (pa_cons (Stx.pe_scT2 (own := [("word", 1), ("every", 2), ("after", 3), ("weights", 4), ("gives", 5), ("most", 6), ("name", 7), ("weight", 8)]) (vs1 := [7, 8]) (g := gTup K 6 (gCons (gName 1) (gCons (gName 2) (gCons (gName 3) (gCons (gName 4) (gCons (gName 5) (gCons (gName 6) gNil))))))) (g1 := gTup K 2 (gCons (gName 7) (gCons (gName 8) gNil))) (tt := tYes) (tt1 := tYes) (wi1 := (iTup K (tVar 4))) (te := tVar 7) rfl scLo.nd (pi_list (pv 0)) (blkOk_by (own := [("word", 1), ("every", 2), ("after", 3), ("weights", 4), ("gives", 5), ("most", 6), ("name", 7), ("weight", 8)]) (N := nmLo) (sc := defScope sLo) (by decide +kernel)) (by decide) (fun _ _ _ _ _ => (pg_tup rfl (pgs_cons (pg_name (i := 1) scLo.nd rfl (Or.inl rfl)) (pgs_cons (pg_name (i := 2) scLo.nd rfl (Or.inl rfl)) (pgs_cons (pg_name (i := 3) scLo.nd rfl (Or.inl rfl)) (pgs_cons (pg_name (i := 4) scLo.nd rfl (Or.inl rfl)) (pgs_cons (pg_name (i := 5) scLo.nd rfl (Or.inl rfl)) (pgs_cons (pg_name (i := 6) scLo.nd rfl (Or.inl rfl)) pgs_nil)))))))) (fun _ _ _ _ _ => pts_nil) (fun _ _ _ _ _ => (pi_tup (pv 4))) (fun _ _ _ _ _ => (pg_tup rfl (pgs_cons (pg_name (i := 7) scLo.nd rfl (Or.inl rfl)) (pgs_cons (pg_name (i := 8) scLo.nd rfl (Or.inl rfl)) pgs_nil)))) (fun _ _ _ _ _ => pts_nil) (fun _ _ _ _ _ => (pv 7))) pa_nil)))), ?_⟩
    have lr := hR.length
    have n12 := rls.n12
    refine ⟨_, rfl, a, rfl, ⟨_, ha⟩, fun D nD => ?_⟩
    have sD := same_upd (o := Stx.SetSO P w D []) nD
    refine Stx.trn_list (K := K) (a := a) (xs := vr) (fun j H' => ∃ fs : List Str, Same H H' ∧ H' D = some (Stx.SetSO P w D fs) ∧ fs.Nodup ∧ (∀ x, x ∈ fs ↔ ∃ r ∈ rs.take j, x ∈ (prF r 3).map (·.1)) ∧ fs.length ≤ 3 * j)
      ⟨[], sD, upd_same, List.nodup_nil, (fun x => ⟨fun h => absurd h List.not_mem_nil, fun ⟨r, hr, _⟩ => by rw [List.take_zero] at hr; exact absurd hr List.not_mem_nil⟩), Nat.zero_le _⟩ (fun j H' _ ⟨_, sm, _⟩ => sm.seq ha) ?_ ?_
    · rintro j x H1 hx ⟨fs, sm, hD, fnd, fme, fl⟩
      obtain ⟨r, hr', ra⟩ := paired_get hR j x hx
      have hjl := (List.getElem?_eq_some_iff.mp hr').1
      have hrm : r ∈ rs := List.mem_of_getElem? hr'
      obtain ⟨pr1, pr3, prn, prg⟩ := rls.pr hrm 3
      obtain ⟨t, wt', gt, rfl, ht, hw, hg⟩ := ra
      obtain ⟨vs, hps, hpp⟩ : ∃ vs : List V, TupN H wt' vs ∧ Paired (PairAt H) vs (prF r 3) := hw
      have lv := hpp.length
      refine ⟨t, _, rfl, SqT.of (sm _ _ ht), rfl, _, _, rfl, _, _, rfl, _, _, rfl, _, _, rfl, _, _, rfl, _, _, rfl, rfl, ?_⟩
      refine ⟨by rw [wipe_set (by decide), wipe_set (by decide), wipe_set (by decide), wipe_set (by decide), wipe_set (by decide), wipe_set (by decide), wipe_wipe], ?_⟩
      refine ⟨.ref wt', (by rw [List.getElem?_set_ne (by decide), List.getElem?_set_ne (by decide), List.getElem?_set_self (by rw [List.length_set, List.length_set, List.length_set, wipe_length]; exact (by decide : 4 < 9))]), wt', rfl, ⟨_, .inl (hps.same sm).rd⟩, ?_⟩
      refine Stx.trn_tup (K := K) (a := wt') (xs := vs) (fun i H' => ∃ gs : List Str, Same H H' ∧ H' D = some (Stx.SetSO P w D gs) ∧ gs.Nodup ∧ (∀ x, x ∈ gs ↔ x ∈ fs ∨ x ∈ ((prF r 3).take i).map (·.1)) ∧ gs.length ≤ 3 * j + i)
        ⟨fs, sm, hD, fnd, (fun x => ⟨.inl, fun h => h.elim id fun h => by rw [List.take_zero] at h; exact absurd h List.not_mem_nil⟩), fl⟩ (fun i H' _ ⟨_, sm', _⟩ => .inl (hps.same sm').rd) ?_ ?_
      · rintro i x H' hx' ⟨gs, sm', hD', gnd, gme, gl⟩
        obtain ⟨p, hpi, b, rfl, hb⟩ := paired_get hpp i x hx'
        have hil := (List.getElem?_eq_some_iff.mp hpi).1
        refine ⟨b, _, rfl, SqT.of (sm' _ _ hb), rfl, _, _, rfl, _, _, rfl, rfl, ?_⟩
        refine ⟨by rw [wipe_set (by decide), wipe_set (by decide), wipe_wipe], ?_⟩
        refine ⟨.str p.1, (by rw [List.getElem?_set_ne (by decide), List.getElem?_set_self (by rw [wipe_length, List.length_set, List.length_set, List.length_set, List.length_set, List.length_set, List.length_set, wipe_length]; exact (by decide : 7 < 9))]), p.1, gs, rfl, hD', ?_, Stx.addS p.1 gs, sm'.put nD, upd_same, Stx.nodup_addS gnd, fun x => ?_, ?_⟩
        · show gs.length + 1 < scanBound
          unfold scanBound
          omega
        · rw [Stx.mem_addS, gme x, List.take_add_one, hpi]
          simp only [List.map_append, List.mem_append, Option.toList_some, List.map_cons, List.map_nil, List.mem_singleton]
          constructor
          · rintro (h | h | h)
            · exact .inr (.inr h)
            · exact .inl h
            · exact .inr (.inl h)
          · rintro (h | h | h)
            · exact .inr (.inl h)
            · exact .inr (.inr h)
            · exact .inl h
        · have := Stx.addS_len p.1 gs
          omega
      · rintro H' ⟨gs, sm', hD', gnd, gme, gl⟩
        rw [lv] at gme gl
        rw [List.take_length] at gme
        refine ⟨gs, sm', hD', gnd, fun x => ?_, by omega⟩
        rw [gme x, fme x, List.take_add_one, hr']
        constructor
        · rintro (⟨r', h1, h2⟩ | h)
          · exact ⟨r', List.mem_append_left _ h1, h2⟩
          · exact ⟨r, List.mem_append_right _ List.mem_cons_self, h⟩
        · rintro ⟨r', h1, h2⟩
          rcases List.mem_append.mp h1 with h1 | h1
          · exact .inl ⟨r', h1, h2⟩
          · have : r' = r := by simpa using h1
            subst this
            exact .inr h2
    · rintro H1 ⟨fs, sm, hD, fnd, fme, fl⟩
      rw [lr, List.take_length] at fme
      refine ⟨D, fs, rfl, hD, by omega, fun ss p pm so np => ?_⟩
      exact q _ p ss (sm.trans (same_upd np)) (sm.free np) upd_same ⟨pm.nodup_iff.mpr fnd, so, fun x => pm.mem_iff.trans (fme x), by rw [pm.length_eq]; omega⟩
abbrev sOo : Stmt := topS 40
abbrev nmOo : List Str := ["rules", "word", "every", "after", "weights", "gives", "most", "name", "many"]
theorem scOo : FnScope nmOo ["rules"] (defScope sOo) := ⟨rfl, rfl, rfl, by decide +kernel, rfl, by decide +kernel, by decide +kernel⟩
theorem ok_oo {f : Addr} {fd : FuncData} {k : Nat} (F : Fun K "outlets_of" "outlets_of" sOo f fd) (J : Bj mg) : FnOk P w K mg base CX0 (k + 1) f fd ["rules"] (spNs K 4) := by
  refine F.ok scOo (fun vs H Q E h => ?_) (fun cdv A outer s H vs Q E hr h => ?_)
  · obtain ⟨a, vr, rs, rfl, _⟩ := h
    rfl
  · obtain ⟨a, vr, rs, rfl, ha, hR, rls, q⟩ := h
    refine ⟨_, (pss_one (ps_ret (pe_callB (r := Stx.rSortedTx P w) (Stx.cr_sortedTx rfl) (by rfl) J.sorted (by decide +kernel) (pa_cons (Stx.pe_scT2 (own := [("word", 1), ("every", 2), ("after", 3), ("weights", 4), ("gives", 5), ("most", 6), ("name", 7), ("many", 8)]) (vs1 := [7, 8]) (g := gTup K 6 (gCons (gName 1) (gCons (gName 2) (gCons (gName 3) (gCons (gName 4) (gCons (gName 5) (gCons (gName 6) gNil))))))) (g1 := gTup K 2 (gCons (gName 7) (gCons (gName 8) gNil))) (tt := tYes) (tt1 := tYes) (wi1 := (iTup K (tVar 5))) (te := tVar 7) rfl scOo.nd (pi_list (pv 0)) (blkOk_by (own := [("word", 1), ("every", 2), ("after", 3), ("weights", 4), ("gives", 5), ("most", 6), ("name", 7), ("many", 8)]) (N := nmOo) (sc := defScope sOo) (by decide +kernel)) (by decide) (fun _ _ _ _ _ => (pg_tup rfl (pgs_cons (pg_name (i := 1) scOo.nd rfl (Or.inl rfl)) (pgs_cons (pg_name (i := 2) scOo.nd rfl (Or.inl rfl)) (pgs_cons (pg_name (i := 3) scOo.nd rfl (Or.inl rfl)) (pgs_cons (pg_name (i := 4) scOo.nd rfl (Or.inl rfl)) (pgs_cons (pg_name (i := 5) scOo.nd rfl (Or.inl rfl)) (pgs_cons (pg_name (i := 6) scOo.nd rfl (Or.inl rfl)) pgs_nil)))))))) (fun _ _ _ _ _ => pts_nil) (fun _ _ _ _ _ => (pi_tup (pv 5))) (fun _ _ _ _ _ => (pg_tup rfl (pgs_cons (pg_name (i := 7) scOo.nd rfl (Or.inl rfl)) (pgs_cons (pg_name (i := 8) scOo.nd rfl (Or.inl rfl)) pgs_nil)))) (fun _ _ _ _ _ => pts_nil) (fun _ _ _ _ _ => (pv 7))) pa_nil)))), ?_⟩
    have lr := hR.length
    have n12 := rls.n12
    refine ⟨_, rfl, a, rfl, ⟨_, ha⟩, fun D nD => ?_⟩
    have sD := same_upd (o := Stx.SetSO P w D []) nD
    refine Stx.trn_list (K := K) (a := a) (xs := vr) (fun j H' => ∃ fs : List Str, Same H H' ∧ H' D = some (Stx.SetSO P w D fs) ∧ fs.Nodup ∧ (∀ x, x ∈ fs ↔ ∃ r ∈ rs.take j, x ∈ (prF r 4).map (·.1)) ∧ fs.length ≤ 3 * j)
      ⟨[], sD, upd_same, List.nodup_nil, (fun x => ⟨fun h => absurd h List.not_mem_nil, fun ⟨r, hr, _⟩ => by rw [List.take_zero] at hr; exact absurd hr List.not_mem_nil⟩), Nat.zero_le _⟩ (fun j H' _ ⟨_, sm, _⟩ => sm.seq ha) ?_ ?_
    · rintro j x H1 hx ⟨fs, sm, hD, fnd, fme, fl⟩
      obtain ⟨r, hr', ra⟩ := paired_get hR j x hx
      have hjl := (List.getElem?_eq_some_iff.mp hr').1
      have hrm : r ∈ rs := List.mem_of_getElem? hr'
      obtain ⟨pr1, pr3, prn, prg⟩ := rls.pr hrm 4
      obtain ⟨t, wt', gt, rfl, ht, hw, hg⟩ := ra
      obtain ⟨vs, hps, hpp⟩ : ∃ vs : List V, TupN H gt vs ∧ Paired (PairAt H) vs (prF r 4) := hg
      have lv := hpp.length
      refine ⟨t, _, rfl, SqT.of (sm _ _ ht), rfl, _, _, rfl, _, _, rfl, _, _, rfl, _, _, rfl, _, _, rfl, _, _, rfl, rfl, ?_⟩
      refine ⟨by rw [wipe_set (by decide), wipe_set (by decide), wipe_set (by decide), wipe_set (by decide), wipe_set (by decide), wipe_set (by decide), wipe_wipe], ?_⟩
      refine ⟨.ref gt, (by rw [List.getElem?_set_ne (by decide), List.getElem?_set_self (by rw [List.length_set, List.length_set, List.length_set, List.length_set, wipe_length]; exact (by decide : 5 < 9))]), gt, rfl, ⟨_, .inl (hps.same sm).rd⟩, ?_⟩
      refine Stx.trn_tup (K := K) (a := gt) (xs := vs) (fun i H' => ∃ gs : List Str, Same H H' ∧ H' D = some (Stx.SetSO P w D gs) ∧ gs.Nodup ∧ (∀ x, x ∈ gs ↔ x ∈ fs ∨ x ∈ ((prF r 4).take i).map (·.1)) ∧ gs.length ≤ 3 * j + i)
        ⟨fs, sm, hD, fnd, (fun x => ⟨.inl, fun h => h.elim id fun h => by rw [List.take_zero] at h; exact absurd h List.not_mem_nil⟩), fl⟩ (fun i H' _ ⟨_, sm', _⟩ => .inl (hps.same sm').rd) ?_ ?_
      · rintro i x H' hx' ⟨gs, sm', hD', gnd, gme, gl⟩
        obtain ⟨p, hpi, b, rfl, hb⟩ := paired_get hpp i x hx'
        have hil := (List.getElem?_eq_some_iff.mp hpi).1
        refine ⟨b, _, rfl, SqT.of (sm' _ _ hb), rfl, _, _, rfl, _, _, rfl, rfl, ?_⟩
        refine ⟨by rw [wipe_set (by decide), wipe_set (by decide), wipe_wipe], ?_⟩
        refine ⟨.str p.1, (by rw [List.getElem?_set_ne (by decide), List.getElem?_set_self (by rw [wipe_length, List.length_set, List.length_set, List.length_set, List.length_set, List.length_set, List.length_set, wipe_length]; exact (by decide : 7 < 9))]), p.1, gs, rfl, hD', ?_, Stx.addS p.1 gs, sm'.put nD, upd_same, Stx.nodup_addS gnd, fun x => ?_, ?_⟩
        · show gs.length + 1 < scanBound
          unfold scanBound
          omega
        · rw [Stx.mem_addS, gme x, List.take_add_one, hpi]
          simp only [List.map_append, List.mem_append, Option.toList_some, List.map_cons, List.map_nil, List.mem_singleton]
          constructor
          · rintro (h | h | h)
            · exact .inr (.inr h)
            · exact .inl h
            · exact .inr (.inl h)
          · rintro (h | h | h)
            · exact .inr (.inl h)
            · exact .inr (.inr h)
            · exact .inl h
        · have := Stx.addS_len p.1 gs
          omega
      · rintro H' ⟨gs, sm', hD', gnd, gme, gl⟩
        rw [lv] at gme gl
        rw [List.take_length] at gme
        refine ⟨gs, sm', hD', gnd, fun x => ?_, by omega⟩
        rw [gme x, fme x, List.take_add_one, hr']
        constructor
        · rintro (⟨r', h1, h2⟩ | h)
          · exact ⟨r', List.mem_append_left _ h1, h2⟩
          · exact ⟨r, List.mem_append_right _ List.mem_cons_self, h⟩
        · rintro ⟨r', h1, h2⟩
          rcases List.mem_append.mp h1 with h1 | h1
          · exact .inl ⟨r', h1, h2⟩
          · have : r' = r := by simpa using h1
            subst this
            exact .inr h2
    · rintro H1 ⟨fs, sm, hD, fnd, fme, fl⟩
      rw [lr, List.take_length] at fme
      refine ⟨D, fs, rfl, hD, by omega, fun ss p pm so np => ?_⟩
      exact q _ p ss (sm.trans (same_upd np)) (sm.free np) upd_same ⟨pm.nodup_iff.mpr fnd, so, fun x => pm.mem_iff.trans (fme x), by rw [pm.length_eq]; omega⟩
end
end Hl

set_option Elab.async false
set_option linter.all false
set_option maxRecDepth 100000
set_option maxHeartbeats 4000000
namespace Hl
open PySem PySem.Spec PyProof.Rows L2 Tk
/-! what the reading of rules says, as a function of the pieces -/
abbrev Tok := Nat × Str
def mkS (l : List Nat) : Str := ⟨l.toArray⟩
theorem mkS_cps (l : List Nat) : (mkS l).cps.toList = l := rfl
theorem mkS_self (s : Str) : mkS s.cps.toList = s := str_ext rfl
def toks (s : Str) : List Tok := (pcs s.length 0 s.cps.toList).map fun p => (p.1, mkS p.2)
def wordsT (ts : List Tok) : List Str := ts.map (·.2)
def nt (i : Int) : Str := (toString i : String)
def numL (lo hi : Nat) : List Str := (List.range (hi + 1 - lo)).map fun (i : Nat) => nt ((lo : Int) + (i : Int))
def dig1 (w : Str) : Bool := Txt.isdigit (cutS w none (some 1))
def nameB (w : Str) : Bool := decide (1 ≤ w.length) && (decide (w.length ≤ 6) && w.cps.toList.all fun c => decide (97 ≤ c) && decide (c ≤ 122))
def nameOk (last w : Str) : Bool := nameB w && (!(keptW.contains w) && decide (last.cps.toList < w.cps.toList))
abbrev Rd (α : Type) := Except Nat (α × List Tok)
def rdNum (lo hi : Nat) : List Tok → Rd Int
  | (at', w) :: ts => if w ∈ numL lo hi then .ok ((PySem.intText? w).getD 0, ts) else .error at'
  | [] => .error 0
def rdOne (x : Str) : List Tok → Rd Unit
  | (at', w) :: ts => if w = x then .ok ((), ts) else .error at'
  | [] => .error 0
def rdName (last : Str) : List Tok → Rd Str
  | (at', w) :: ts => if nameOk last w = true then .ok (w, ts) else .error at'
  | [] => .error 0
def hdW : List Tok → Str
  | t :: _ => t.2
  | [] => ""
def rdPair (last : Str) (ts : List Tok) : Rd (Str × Int) :=
  match rdName last ts with
  | .error e => .error e
  | .ok (w, ts1) => if dig1 (hdW ts1) = true then
      match rdNum 2 4 ts1 with
      | .error e => .error e
      | .ok (n, ts2) => .ok ((w, n), ts2)
    else .ok ((w, 1), ts1)
/-- what comes behind pairs that were read; n: how many more there may be -/
def rdMoreP : Nat → List (Str × Int) → List Tok → Rd (List (Str × Int))
  | 0, _, _ => .error 0
  | n + 1, ps, ts => if hdW ts = "," then
      match rdPair ((ps.getLast?.map (·.1)).getD "") ts.tail with
      | .error e => .error e
      | .ok (p, ts2) => rdMoreP n (ps ++ [p]) ts2
    else .ok (ps, ts)
def rdPairs (ts : List Tok) : Rd (List (Str × Int)) :=
  match rdPair "" ts with
  | .error e => .error e
  | .ok (p, ts1) => rdMoreP ts1.length [p] ts1
def rdAfter (ts : List Tok) : Rd Int := if hdW ts = "after" then rdNum 1 12 ts.tail else .ok (0, ts)
def rdMost (ts : List Tok) : Rd (Option Int) :=
  if hdW ts = "at" then
    match rdOne "most" ts.tail with
    | .error e => .error e
    | .ok (_, ts1) => match rdNum 1 6 ts1 with
      | .error e => .error e
      | .ok (n, ts2) => .ok (some n, ts2)
  else .ok (none, ts)
def rdR7 (e a : Int) (ws gs : List (Str × Int)) (t7 : List Tok) : Rd Rl :=
  match rdMost t7 with
  | .error x => .error x
  | .ok (m, t8) => .ok (⟨e, a, m, ws, gs⟩, t8)
def rdR6 (e a : Int) (ws : List (Str × Int)) (t6 : List Tok) : Rd Rl :=
  match rdPairs t6 with
  | .error x => .error x
  | .ok (gs, t7) => rdR7 e a ws gs t7
def rdR5 (e a : Int) (ws : List (Str × Int)) (t5 : List Tok) : Rd Rl :=
  match rdOne "gives" t5 with
  | .error x => .error x
  | .ok (_, t6) => rdR6 e a ws t6
def rdR4 (e a : Int) (t4 : List Tok) : Rd Rl :=
  match rdPairs t4 with
  | .error x => .error x
  | .ok (ws, t5) => rdR5 e a ws t5
def rdR3 (e a : Int) (t3 : List Tok) : Rd Rl :=
  match rdOne "with" t3 with
  | .error x => .error x
  | .ok (_, t4) => rdR4 e a t4
def rdR2 (e : Int) (t2 : List Tok) : Rd Rl :=
  match rdAfter t2 with
  | .error x => .error x
  | .ok (a, t3) => rdR3 e a t3
def rdR1 (t1 : List Tok) : Rd Rl :=
  match rdNum 1 6 t1 with
  | .error x => .error x
  | .ok (e, t2) => rdR2 e t2
def rdRule (ts : List Tok) : Rd Rl :=
  match rdOne "each" ts with
  | .error e => .error e
  | .ok (_, t1) => rdR1 t1
def hdA : List Tok → Nat
  | t :: _ => t.1
  | [] => 0
/-- what comes behind rules that were read; n: how many more there may be -/
def rdMoreR : Nat → List Rl → List Tok → Except Nat (List Rl)
  | 0, rs, ts => if hdW ts = "" then .ok rs else .error (hdA ts)
  | n + 1, rs, ts => if hdW ts = "" then .ok rs else
    match rdOne ";" ts with
    | .error e => .error e
    | .ok (_, t1) => match rdRule t1 with
      | .error e => .error e
      | .ok (r, t2) => rdMoreR n (rs ++ [r]) t2
def rdAll (ts : List Tok) : Except Nat (List Rl) :=
  match rdRule ts with
  | .error e => .error e
  | .ok (r, t1) => rdMoreR 11 [r] t1
/-! the words of rules -/
def prW (p : Str × Int) : List Str := if p.2 = 1 then [p.1] else [p.1, nt p.2]
def joinW (m : Str) : List (List Str) → List Str
  | [] => []
  | [x] => x
  | x :: y :: r => x ++ (m :: joinW m (y :: r))
def prsW (ps : List (Str × Int)) : List Str := joinW "," (ps.map prW)
def afW (a : Int) : List Str := if a = 0 then [] else ["after", nt a]
def moW : Option Int → List Str
  | none => []
  | some k => ["at", "most", nt k]
def rlW (r : Rl) : List Str := ("each" : Str) :: nt r.e :: (afW r.a ++ (("with" : Str) :: (prsW r.ws ++ (("gives" : Str) :: (prsW r.gs ++ moW r.m)))))
def rsW (rs : List Rl) : List Str := joinW ";" (rs.map rlW)
theorem num_mem {lo hi : Nat} {k : Int} (h : (lo : Int) ≤ k) (h2 : k ≤ hi) : nt k ∈ numL lo hi := by
  refine List.mem_map.mpr ⟨(k - lo).toNat, List.mem_range.mpr (by omega), ?_⟩
  rw [show (lo : Int) + ((k - lo).toNat : Int) = k by omega]
theorem num_int_all : ((List.range 13).all fun n => decide (PySem.intText? (nt (n : Int)) = some (n : Int))) = true := by decide +kernel
theorem num_int {k : Int} (h : 0 ≤ k) (h2 : k ≤ 12) : PySem.intText? (nt k) = some k := by
  obtain ⟨n, rfl⟩ := Int.eq_ofNat_of_zero_le h
  exact of_decide_eq_true (List.all_eq_true.mp num_int_all n (List.mem_range.mpr (by omega)))
theorem words_cons {ts : List Tok} {w : Str} {ws : List Str} (h : wordsT ts = w :: ws) : ∃ a r, ts = (a, w) :: r ∧ wordsT r = ws := by
  cases ts with
  | nil => cases h
  | cons t r =>
    obtain ⟨a, b⟩ := t
    have h' : b :: wordsT r = w :: ws := h
    cases h'
    exact ⟨a, r, rfl, rfl⟩
theorem one_fwd {ts : List Tok} {w : Str} {ws : List Str} (h : wordsT ts = w :: ws) : ∃ r, rdOne w ts = .ok ((), r) ∧ wordsT r = ws := by
  obtain ⟨a, r, rfl, h2⟩ := words_cons h
  exact ⟨r, if_pos rfl, h2⟩
theorem num_fwd {ts : List Tok} {k : Int} {lo hi : Nat} {ws : List Str} (h : wordsT ts = nt k :: ws) (h1 : (lo : Int) ≤ k) (h2 : k ≤ hi) (h12 : hi ≤ 12) : ∃ r, rdNum lo hi ts = .ok (k, r) ∧ wordsT r = ws := by
  obtain ⟨a, r, rfl, h3⟩ := words_cons h
  refine ⟨r, ?_, h3⟩
  show (if nt k ∈ numL lo hi then _ else _) = _
  rw [if_pos (num_mem h1 h2), num_int (by omega) (by omega)]
  rfl
theorem hd_fwd {ts : List Tok} {w : Str} {ws : List Str} (h : wordsT ts = w :: ws) : hdW ts = w := by
  obtain ⟨a, r, rfl, h3⟩ := words_cons h
  rfl
theorem tail_fwd {ts : List Tok} {w : Str} {ws : List Str} (h : wordsT ts = w :: ws) : wordsT ts.tail = ws := by
  obtain ⟨a, r, rfl, h3⟩ := words_cons h
  exact h3
theorem nameB_of {s : Str} (h : Good s) : nameB s = true := by
  unfold nameB
  simp only [Bool.and_eq_true, decide_eq_true_eq, List.all_eq_true]
  exact ⟨h.l1, h.l6, h.az⟩
theorem name_fwd {ts : List Tok} {w last : Str} {ws : List Str} (h : wordsT ts = w :: ws) (g : Good w) (hl : LtS last w) : ∃ r, rdName last ts = .ok (w, r) ∧ wordsT r = ws := by
  obtain ⟨a, r, rfl, h3⟩ := words_cons h
  refine ⟨r, if_pos ?_, h3⟩
  unfold nameOk
  have nk : keptW.contains w = false := by
    cases e : keptW.contains w with
    | false => rfl
    | true => exact absurd (List.contains_iff_mem.mp e) g.nk
  rw [nameB_of g, nk, decide_eq_true (show last.cps.toList < w.cps.toList from hl)]
  rfl
theorem dig_num_all : ((List.range 13).all fun n => dig1 (nt (n : Int))) = true := by decide +kernel
theorem dig_num {k : Int} (h : 0 ≤ k) (h2 : k ≤ 12) : dig1 (nt k) = true := by
  obtain ⟨n, rfl⟩ := Int.eq_ofNat_of_zero_le h
  exact List.all_eq_true.mp dig_num_all n (List.mem_range.mpr (by omega))
/-- what may stand behind pairs -/
def EndW (w : Str) : Prop := dig1 w = false
theorem pair_fwd {ts : List Tok} {last : Str} {p : Str × Int} {ws : List Str} (h : wordsT ts = prW p ++ ws) (g : Good p.1) (hl : LtS last p.1) (h1 : 1 ≤ p.2) (h4 : p.2 ≤ 4) (he : ∀ w, ws.head? = some w → dig1 w = false) : ∃ r, rdPair last ts = .ok (p, r) ∧ wordsT r = ws := by
  obtain ⟨n, k⟩ := p
  unfold prW at h
  dsimp only at *
  unfold rdPair
  by_cases e : k = 1
  · subst e
    rw [if_pos rfl] at h
    obtain ⟨r, h2, h3⟩ := name_fwd (ws := ws) h g hl
    refine ⟨r, ?_, h3⟩
    rw [h2]
    dsimp only
    have : dig1 (hdW r) = false := by
      cases ws with
      | nil =>
        cases r with
        | nil => decide +kernel
        | cons t r => cases h3
      | cons w ws =>
        rw [hd_fwd h3]
        exact he w rfl
    rw [this]
    rfl
  · rw [if_neg e] at h
    obtain ⟨r, h2, h3⟩ := name_fwd (ws := nt k :: ws) h g hl
    obtain ⟨r2, h5, h6⟩ := num_fwd (lo := 2) (hi := 4) h3 (by omega) (by omega) (by decide)
    refine ⟨r2, ?_, h6⟩
    rw [h2]
    dsimp only
    rw [hd_fwd h3, dig_num (by omega) (by omega), h5]
    rfl
theorem dig_comma : dig1 "," = false := by decide +kernel
/-- rows of pairs as they are written -/
structure PrsOk (ps : List (Str × Int)) : Prop where
  good : ∀ p ∈ ps, Good p.1
  one : ∀ p ∈ ps, 1 ≤ p.2
  four : ∀ p ∈ ps, p.2 ≤ 4
  rise : (ps.map (·.1)).Pairwise LtS
theorem prW_ne (p : Str × Int) : ∃ x r, prW p = x :: r := by
  unfold prW
  split
  · exact ⟨_, _, rfl⟩
  · exact ⟨_, _, rfl⟩
theorem len_words (ts : List Tok) : ts.length = (wordsT ts).length := by unfold wordsT; rw [List.length_map]
theorem joinW_eq (m : Str) : ∀ (x : List Str) (ys : List (List Str)), joinW m (x :: ys) = x ++ (ys.map fun y => m :: y).flatten
  | x, [] => by simp [joinW]
  | x, y :: ys => by
    show x ++ (m :: joinW m (y :: ys)) = _
    rw [joinW_eq m y ys]
    simp
theorem moreP_fwd : ∀ (qs : List (Str × Int)) (done : List (Str × Int)) (d : Str × Int) (ts : List Tok) (ws : List Str) (n : Nat), PrsOk (d :: qs) → wordsT ts = (qs.map fun q => ("," : Str) :: prW q).flatten ++ ws → ws ≠ [] → (∀ w, ws.head? = some w → dig1 w = false ∧ w ≠ ",") → ts.length ≤ n →
    ∃ r, rdMoreP n (done ++ [d]) ts = .ok (done ++ d :: qs, r) ∧ wordsT r = ws
  | [], done, d, ts, ws, n, ok, h, h0, he, hn => by
    have h' : wordsT ts = ws := by simpa using h
    cases ws with
    | nil => exact absurd rfl h0
    | cons w ws =>
    have lt := len_words ts
    rw [h', List.length_cons] at lt
    cases n with
    | zero => omega
    | succ n =>
      refine ⟨ts, ?_, h'⟩
      show (if hdW ts = "," then _ else _) = _
      rw [hd_fwd h', if_neg (he w rfl).2]
  | q :: qs, done, d, ts, ws, n, ok, h, h0, he, hn => by
    have h' : wordsT ts = ("," : Str) :: (prW q ++ ((qs.map fun q => ("," : Str) :: prW q).flatten ++ ws)) := by
      rw [h]
      simp
    have lt := len_words ts
    rw [h', List.length_cons] at lt
    cases n with
    | zero => omega
    | succ n =>
      have hr := ok.rise
      rw [List.map_cons, List.map_cons] at hr
      obtain ⟨hr1, hr2⟩ := List.pairwise_cons.mp hr
      obtain ⟨r, h2, h3⟩ := pair_fwd (last := d.1) (tail_fwd h') (ok.good q (by simp)) (hr1 _ List.mem_cons_self) (ok.one q (by simp)) (ok.four q (by simp)) (fun w hw => by
        cases qs with
        | nil => exact (he w (by simpa using hw)).1
        | cons q2 qs =>
          have : w = "," := by simpa using hw.symm
          rw [this]
          exact dig_comma)
      have lr := len_words r
      rw [h3] at lr
      have l1 : r.length ≤ n := by
        rw [List.length_append] at lt
        omega
      obtain ⟨r2, h4, h5⟩ := moreP_fwd qs (done ++ [d]) q r ws n ⟨fun p hp => ok.good p (List.mem_cons_of_mem _ hp), fun p hp => ok.one p (List.mem_cons_of_mem _ hp), fun p hp => ok.four p (List.mem_cons_of_mem _ hp), hr2⟩ h3 h0 he l1
      refine ⟨r2, ?_, h5⟩
      show (if hdW ts = "," then _ else _) = _
      rw [if_pos (hd_fwd h'), show (((done ++ [d]).getLast?.map (fun x : Str × Int => x.1)).getD ("" : Str)) = d.1 by simp, h2]
      dsimp only
      rw [h4]
      simp
theorem empty_lt {s : Str} (h : Good s) : LtS "" s := by
  have := h.l1
  show ("" : Str).cps.toList < s.cps.toList
  have e : ("" : Str).cps.toList = [] := by decide +kernel
  rw [e]
  have hl : s.cps.toList.length = s.length := by simp [Str.length]
  cases es : s.cps.toList with
  | nil =>
    rw [es] at hl
    simp at hl
    omega
  | cons c r => exact List.nil_lt_cons c r
theorem prs_fwd {ps : List (Str × Int)} {ts : List Tok} {ws : List Str} (ok : PrsOk ps) (hp : ps ≠ []) (h : wordsT ts = prsW ps ++ ws) (h0 : ws ≠ []) (he : ∀ w, ws.head? = some w → dig1 w = false ∧ w ≠ ",") : ∃ r, rdPairs ts = .ok (ps, r) ∧ wordsT r = ws := by
  cases ps with
  | nil => exact absurd rfl hp
  | cons p qs =>
    have h' : wordsT ts = prW p ++ ((qs.map fun q => ("," : Str) :: prW q).flatten ++ ws) := by
      rw [h]
      show joinW "," (prW p :: qs.map prW) ++ ws = _
      rw [joinW_eq, List.map_map, List.append_assoc]
      rfl
    obtain ⟨r, h2, h3⟩ := pair_fwd (last := "") h' (ok.good p List.mem_cons_self) (empty_lt (ok.good p List.mem_cons_self)) (ok.one p (by simp)) (ok.four p (by simp)) (fun w hw => by
      cases qs with
      | nil => exact (he w (by simpa using hw)).1
      | cons q2 qs =>
        have : w = "," := by simpa using hw.symm
        rw [this]
        exact dig_comma)
    obtain ⟨r2, h4, h5⟩ := moreP_fwd qs [] p r ws r.length ok h3 h0 he (Nat.le_refl _)
    refine ⟨r2, ?_, h5⟩
    unfold rdPairs
    rw [h2]
    exact h4
structure RlOk (r : Rl) : Prop where
  e : 1 ≤ r.e ∧ r.e ≤ 6
  a : 0 ≤ r.a ∧ r.a ≤ 12
  m : ∀ k, r.m = some k → 1 ≤ k ∧ k ≤ 6
  ws : PrsOk r.ws
  gs : PrsOk r.gs
  w1 : r.ws ≠ []
  g1 : r.gs ≠ []
theorem rlOk_of {r : Rl} (h : OkR r) : RlOk r := ⟨h.oe, h.oa, h.om, ⟨h.wg, h.wo, fun p hp => (h.wv p hp).2, h.wr⟩, ⟨h.gg, h.go, fun p hp => (h.gv p hp).2, h.gr⟩, fun z => by
  have := h.w1
  rw [z] at this
  exact absurd this (by decide), fun z => by
  have := h.g1
  rw [z] at this
  exact absurd this (by decide)⟩
theorem w_after : dig1 "after" = false := by decide +kernel
theorem w_gives : dig1 "gives" = false ∧ ("gives" : Str) ≠ "," := by decide +kernel
theorem w_at : dig1 "at" = false ∧ ("at" : Str) ≠ "," := by decide +kernel
theorem w_with : ("with" : Str) ≠ "after" := by decide +kernel
theorem rule_fwd {r : Rl} {ts : List Tok} {ws : List Str} (ok : RlOk r) (h : wordsT ts = rlW r ++ ws) (h0 : ws ≠ []) (he : ∀ w, ws.head? = some w → dig1 w = false ∧ w ≠ "," ∧ w ≠ "at") : ∃ t, rdRule ts = .ok (r, t) ∧ wordsT t = ws := by
  obtain ⟨re, ra, rm, rws, rgs⟩ := r
  obtain ⟨⟨e1, e6⟩, ⟨a0, a12⟩, om, okw, okg, w1, g1⟩ := ok
  dsimp only at *
  have h' : wordsT ts = ("each" : Str) :: nt re :: (afW ra ++ (("with" : Str) :: (prsW rws ++ (("gives" : Str) :: (prsW rgs ++ (moW rm ++ ws)))))) := by
    rw [h]
    simp [rlW]
  obtain ⟨t1, q1, h1⟩ := one_fwd h'
  obtain ⟨t2, q2, h2⟩ := num_fwd (lo := 1) (hi := 6) h1 (by omega) (by omega) (by decide)
  obtain ⟨t3, q3, h3⟩ : ∃ t3, rdAfter t2 = .ok (ra, t3) ∧ wordsT t3 = ("with" : Str) :: (prsW rws ++ (("gives" : Str) :: (prsW rgs ++ (moW rm ++ ws)))) := by
    unfold rdAfter
    unfold afW at h2
    by_cases z : ra = 0
    · rw [if_pos z] at h2
      refine ⟨t2, ?_, h2⟩
      rw [hd_fwd h2, if_neg w_with, z]
    · rw [if_neg z] at h2
      have h2' : wordsT t2 = ("after" : Str) :: nt ra :: (("with" : Str) :: (prsW rws ++ (("gives" : Str) :: (prsW rgs ++ (moW rm ++ ws))))) := h2
      obtain ⟨t3, q3, h3⟩ := num_fwd (lo := 1) (hi := 12) (tail_fwd h2') (by omega) (by omega) (by decide)
      refine ⟨t3, ?_, h3⟩
      rw [if_pos (hd_fwd h2'), q3]
  obtain ⟨t4, q4, h4⟩ := one_fwd h3
  obtain ⟨t5, q5, h5⟩ := prs_fwd okw w1 h4 (by simp) (fun w hw => by
    have : w = "gives" := by simpa using hw.symm
    rw [this]
    exact w_gives)
  obtain ⟨t6, q6, h6⟩ := one_fwd h5
  obtain ⟨t7, q7, h7⟩ := prs_fwd okg g1 h6 (by simp [h0]) (fun w hw => by
    cases rm with
    | none => exact ⟨(he w (by simpa [moW] using hw)).1, (he w (by simpa [moW] using hw)).2.1⟩
    | some k =>
      have : w = "at" := by simpa [moW] using hw.symm
      rw [this]
      exact w_at)
  obtain ⟨t8, q8, h8⟩ : ∃ t8, rdMost t7 = .ok (rm, t8) ∧ wordsT t8 = ws := by
    unfold rdMost
    cases rm with
    | none =>
      refine ⟨t7, ?_, h7⟩
      cases ws with
      | nil => exact absurd rfl h0
      | cons w ws =>
        rw [hd_fwd (show wordsT t7 = w :: ws from h7), if_neg (he w rfl).2.2]
    | some k =>
      have h7' : wordsT t7 = ("at" : Str) :: ("most" : Str) :: nt k :: ws := h7
      obtain ⟨ta, qa, ha⟩ := one_fwd (tail_fwd h7')
      obtain ⟨tb, qb, hb⟩ := num_fwd (lo := 1) (hi := 6) ha (by have := om k rfl; omega) (by have := om k rfl; omega) (by decide)
      refine ⟨tb, ?_, hb⟩
      rw [if_pos (hd_fwd h7'), qa]
      dsimp only
      rw [qb]
  refine ⟨t8, ?_, h8⟩
  unfold rdRule
  rw [q1]; dsimp only; unfold rdR1
  rw [q2]; dsimp only; unfold rdR2
  rw [q3]; dsimp only; unfold rdR3
  rw [q4]; dsimp only; unfold rdR4
  rw [q5]; dsimp only; unfold rdR5
  rw [q6]; dsimp only; unfold rdR6
  rw [q7]; dsimp only; unfold rdR7
  rw [q8]
theorem w_semi : dig1 ";" = false ∧ (";" : Str) ≠ "," ∧ (";" : Str) ≠ "at" ∧ (";" : Str) ≠ "" := by decide +kernel
theorem w_end : dig1 "" = false ∧ ("" : Str) ≠ "," ∧ ("" : Str) ≠ "at" := by decide +kernel
theorem moreR_fwd : ∀ (qs done : List Rl) (ts : List Tok) (n : Nat), (∀ r ∈ qs, RlOk r) → wordsT ts = (qs.map fun q => (";" : Str) :: rlW q).flatten ++ [("" : Str)] → qs.length ≤ n → rdMoreR n done ts = .ok (done ++ qs)
  | [], done, ts, n, _, h, _ => by
    have h' : wordsT ts = [("" : Str)] := by simpa using h
    cases n with
    | zero =>
      show (if hdW ts = "" then _ else _) = _
      rw [if_pos (hd_fwd h'), List.append_nil]
    | succ n =>
      show (if hdW ts = "" then _ else _) = _
      rw [if_pos (hd_fwd h'), List.append_nil]
  | q :: qs, done, ts, n, ok, h, hn => by
    cases n with
    | zero => exact absurd hn (by simp)
    | succ n =>
      have h' : wordsT ts = (";" : Str) :: (rlW q ++ ((qs.map fun q => (";" : Str) :: rlW q).flatten ++ [("" : Str)])) := by
        rw [h]
        simp
      obtain ⟨t1, q1, h1⟩ := one_fwd h'
      obtain ⟨t2, q2, h2⟩ := rule_fwd (ok q List.mem_cons_self) h1 (by simp) (fun w hw => by
        cases qs with
        | nil =>
          have : w = "" := by simpa using hw.symm
          rw [this]
          exact w_end
        | cons q2 qs =>
          have : w = ";" := by simpa using hw.symm
          rw [this]
          exact ⟨w_semi.1, w_semi.2.1, w_semi.2.2.1⟩)
      have ih := moreR_fwd qs (done ++ [q]) t2 n (fun r hr => ok r (List.mem_cons_of_mem _ hr)) h2 (by simpa using hn)
      show (if hdW ts = "" then _ else _) = _
      rw [if_neg (by rw [hd_fwd h']; exact w_semi.2.2.2), q1]
      dsimp only
      rw [q2]
      dsimp only
      rw [ih]
      simp
theorem all_fwd {rs : List Rl} {ts : List Tok} (ok : ∀ r ∈ rs, RlOk r) (h0 : rs ≠ []) (h12 : rs.length ≤ 12) (h : wordsT ts = rsW rs ++ [("" : Str)]) : rdAll ts = .ok rs := by
  cases rs with
  | nil => exact absurd rfl h0
  | cons r qs =>
    have h' : wordsT ts = rlW r ++ ((qs.map fun q => (";" : Str) :: rlW q).flatten ++ [("" : Str)]) := by
      rw [h]
      show joinW ";" (rlW r :: qs.map rlW) ++ [("" : Str)] = _
      rw [joinW_eq, List.map_map, List.append_assoc]
      rfl
    obtain ⟨t1, q1, h1⟩ := rule_fwd (ok r List.mem_cons_self) h' (by simp) (fun w hw => by
      cases qs with
      | nil =>
        have : w = "" := by simpa using hw.symm
        rw [this]
        exact w_end
      | cons q2 qs =>
        have : w = ";" := by simpa using hw.symm
        rw [this]
        exact ⟨w_semi.1, w_semi.2.1, w_semi.2.2.1⟩)
    have ih := moreR_fwd qs [r] t1 11 (fun r hr => ok r (List.mem_cons_of_mem _ hr)) h1 (by simp at h12; omega)
    unfold rdAll
    rw [q1]
    exact ih
end Hl

set_option Elab.async false
set_option linter.all false
set_option maxRecDepth 100000
set_option maxHeartbeats 4000000
namespace Hl
open PySem PySem.Spec PyProof.Rows L2 Tk
/-! rules as they are written -/
def cL (s : Str) : List Nat := s.cps.toList
theorem cL_mk (l : List Nat) : cL (mkS l) = l := rfl
theorem mk_cL (s : Str) : mkS (cL s) = s := mkS_self s
theorem cL_app (a b : Str) : cL (a ++ b) = cL a ++ cL b := by
  show (a.cps ++ b.cps).toList = _
  rw [Array.toList_append]
  rfl
theorem cL_len (s : Str) : (cL s).length = s.length := by simp [cL, Str.length]
theorem cL_join (g : Str) (xs : List Str) : cL (Txt.join g xs) = TL.joinL (cL g) (xs.map cL) := by
  rw [TL.join_eq]
  exact TL.tl_join g xs
theorem joinL_same (g : List Nat) : ∀ xs : List (List Nat), Tk.joinL g xs = TL.joinL g xs
  | [] => rfl
  | [x] => rfl
  | x :: y :: r => by
    show x ++ (g ++ Tk.joinL g (y :: r)) = x ++ (g ++ TL.joinL g (y :: r))
    rw [joinL_same g (y :: r)]
def prL (g : List Nat) (p : Str × Int) : List Nat := if p.2 = 1 then cL p.1 else cL p.1 ++ (g ++ cL (nt p.2))
def prsL (b d g : List Nat) (ps : List (Str × Int)) : List Nat := TL.joinL (b ++ (44 :: d)) (ps.map (prL g))
def afL (a : Int) : List (List Nat) := if a = 0 then [] else [cL "after", cL (nt a)]
def moL : Option Int → List (List Nat)
  | none => []
  | some k => [cL "at", cL "most", cL (nt k)]
/-- a rule's parts; b, d: the blanks about a comma, g: those between words -/
def rlG (b d g : List Nat) (r : Rl) : List (List Nat) := cL "each" :: cL (nt r.e) :: (afL r.a ++ (cL "with" :: prsL b d g r.ws :: cL "gives" :: prsL b d g r.gs :: moL r.m))
def rlL (b d g : List Nat) (r : Rl) : List Nat := TL.joinL g (rlG b d g r)
/-- plain rules -/
def plL (r : Rl) : List Nat := rlL [] [32] [32] r
def rsL (rs : List Rl) : List Nat := TL.joinL [59, 32] (rs.map plL)
def rsT (rs : List Rl) : Str := mkS (rsL rs)
/-! their words -/
theorem num_one_all : ((List.range 13).all fun n => decide ((cL (nt (n : Int))).length ≤ 2) && (!(cL (nt (n : Int))).isEmpty && (cL (nt (n : Int))).all fun c => grp c == 1)) = true := by decide +kernel
theorem num_one {k : Int} (h : 0 ≤ k) (h2 : k ≤ 12) : (cL (nt k)).length ≤ 2 ∧ cL (nt k) ≠ [] ∧ ∀ c ∈ cL (nt k), grp c = 1 := by
  obtain ⟨n, rfl⟩ := Int.eq_ofNat_of_zero_le h
  have := List.all_eq_true.mp num_one_all n (List.mem_range.mpr (by omega))
  simp only [Bool.and_eq_true, decide_eq_true_eq, List.all_eq_true, beq_iff_eq] at this
  refine ⟨this.1, fun z => ?_, this.2.2⟩
  have h1 := this.2.1
  rw [z] at h1
  cases h1
theorem It.num {k : Int} (h : 0 ≤ k) (h2 : k ≤ 12) : It (cL (nt k)) [cL (nt k)] := .word (g := 1) (by decide) (num_one h h2).2.2 (num_one h h2).2.1
theorem It.name {s : Str} (h : Good s) : It (cL s) [cL s] := .word (g := 2) (by decide) (fun c hc => by
  have := h.az c hc
  unfold grp
  rw [if_pos this]) (fun z => by
  have := h.l1
  rw [← cL_len, z] at this
  cases this)
theorem It.kept {s : Str} (h : s ∈ keptW) : It (cL s) [cL s] := by
  have : (keptW.all fun s => (!(cL s).isEmpty) && (cL s).all fun c => grp c == 2) = true := by decide +kernel
  have := List.all_eq_true.mp this s h
  simp only [Bool.and_eq_true, List.all_eq_true, beq_iff_eq] at this
  refine .word (g := 2) (by decide) this.2 (fun z => ?_)
  have h1 := this.1
  rw [z] at h1
  cases h1
theorem It.pair {g : List Nat} {p : Str × Int} (hg : Sp g) (hn : g ≠ []) (gd : Good p.1) (h1 : 1 ≤ p.2) (h4 : p.2 ≤ 4) : It (prL g p) ((prW p).map cL) := by
  unfold prL prW
  by_cases e : p.2 = 1
  · rw [if_pos e, if_pos e]
    exact It.name gd
  · rw [if_neg e, if_neg e]
    exact It.two (It.name gd) hg hn (It.num (by omega) (by omega))
theorem joinM_map (m : Str) : ∀ xs : List (List Str), (joinW m xs).map cL = joinM (cL m) (xs.map fun x => x.map cL)
  | [] => rfl
  | [x] => rfl
  | x :: y :: r => by
    show (x ++ (m :: joinW m (y :: r))).map cL = x.map cL ++ (cL m :: joinM (cL m) ((y :: r).map fun x => x.map cL))
    rw [List.map_append, List.map_cons, joinM_map m (y :: r)]
theorem F2.map {α β γ : Type} {R : β → γ → Prop} {f : α → β} {h : α → γ} : ∀ {l : List α}, (∀ x ∈ l, R (f x) (h x)) → F2 R (l.map f) (l.map h)
  | [], _ => .nil
  | x :: l, hx => .cons (hx x List.mem_cons_self) (F2.map fun y hy => hx y (List.mem_cons_of_mem _ hy))
theorem It.prs {b d g : List Nat} {ps : List (Str × Int)} (hb : Sp b) (hd : Sp d) (hg : Sp g) (hn : g ≠ []) (ok : PrsOk ps) (h0 : ps ≠ []) : It (prsL b d g ps) ((prsW ps).map cL) := by
  have e : cL "," = [44] := by decide +kernel
  unfold prsL prsW
  rw [joinM_map, e, ← joinL_same, List.map_map]
  exact It.joinM hb (by decide) (by decide) hd (F2.map fun p hp => It.pair hg hn (ok.good p hp) (ok.one p hp) (ok.four p hp)) (by simpa using h0)
theorem It.joinG {g : List Nat} (hg : Sp g) (hn : g ≠ []) {xs : List (List Nat)} {ts : List (List (List Nat))} (h : F2 It xs ts) (h0 : xs ≠ []) : It (TL.joinL g xs) ts.flatten := by
  rw [← joinL_same]
  exact It.join hg hn h h0
theorem F2.app {α β : Type} {R : α → β → Prop} : ∀ {a : List α} {b : List β} {c : List α} {d : List β}, F2 R a b → F2 R c d → F2 R (a ++ c) (b ++ d)
  | _, _, _, _, .nil, h => h
  | _, _, _, _, .cons x r, h => .cons x (F2.app r h)
def moTs : Option Int → List (List (List Nat))
  | none => []
  | some k => [[cL "at"], [cL "most"], [cL (nt k)]]
theorem It.rule {b d g : List Nat} {r : Rl} (hb : Sp b) (hd : Sp d) (hg : Sp g) (hn : g ≠ []) (ok : RlOk r) : It (rlL b d g r) ((rlW r).map cL) := by
  obtain ⟨re, ra, rm, rws, rgs⟩ := r
  obtain ⟨⟨e1, e6⟩, ⟨a0, a12⟩, om, okw, okg, w1, g1⟩ := ok
  dsimp only at *
  have ha : F2 It (afL ra) (if ra = 0 then [] else [[cL "after"], [cL (nt ra)]]) := by
    unfold afL
    split
    · exact .nil
    · exact .cons (It.kept (by decide)) (.cons (It.num a0 a12) .nil)
  have hm : F2 It (moL rm) (moTs rm) := by
    cases rm with
    | none => exact .nil
    | some k =>
      have := om k rfl
      exact .cons (It.kept (by decide)) (.cons (It.kept (by decide)) (.cons (It.num (by omega) (by omega)) .nil))
  have h : F2 It (rlG b d g ⟨re, ra, rm, rws, rgs⟩) ([cL "each"] :: [cL (nt re)] :: ((if ra = 0 then [] else [[cL "after"], [cL (nt ra)]]) ++ ([cL "with"] :: (prsW rws).map cL :: [cL "gives"] :: (prsW rgs).map cL :: (moTs rm)))) :=
    .cons (It.kept (by decide)) (.cons (It.num (k := re) (by omega) (by omega)) (F2.app ha (.cons (It.kept (by decide)) (.cons (It.prs hb hd hg hn okw w1) (.cons (It.kept (by decide)) (.cons (It.prs hb hd hg hn okg g1) hm))))))
  have := It.joinG hg hn h (by simp [rlG])
  unfold rlL
  refine Eq.mp ?_ this
  congr 1
  unfold rlW afW
  cases rm with
  | none => by_cases z : ra = 0 <;> simp [z, moW, moTs]
  | some k => by_cases z : ra = 0 <;> simp [z, moW, moTs]
theorem sp32 : Sp [32] := fun c hc => by simpa using hc
theorem sp0 : Sp [] := fun c hc => by cases hc
theorem It.rules {rs : List Rl} (ok : ∀ r ∈ rs, RlOk r) (h0 : rs ≠ []) : It (rsL rs) ((rsW rs).map cL) := by
  have e : cL ";" = [59] := by decide +kernel
  unfold rsL rsW
  rw [joinM_map, e, ← joinL_same, List.map_map]
  exact It.joinM (b1 := []) (b2 := [32]) sp0 (by decide) (by decide) sp32 (F2.map fun r hr => It.rule sp0 sp32 sp32 (by decide) (ok r hr)) (by simpa using h0)
theorem toks_words {l : List Nat} {ws : List Str} (h : Wd l (ws.map cL)) : wordsT (toks (mkS l)) = ws ++ [("" : Str)] := by
  have e := h (mkS l).length 0 (by rw [← cL_len]; exact Nat.le_refl _)
  unfold wordsT toks
  rw [List.map_map]
  have e2 : (pcs (mkS l).length 0 (mkS l).cps.toList).map (fun p => mkS p.2) = ((pcs (mkS l).length 0 l).map (·.2)).map mkS := by
    rw [List.map_map]
    rfl
  show (pcs (mkS l).length 0 (mkS l).cps.toList).map (fun p => mkS p.2) = _
  rw [e2, e, List.map_append, List.map_map, show (mkS ∘ cL) = id from funext mk_cL, List.map_id]
  congr 1
theorem rdAll_of {rs : List Rl} (ok : Rls rs) : rdAll (toks (rsT rs)) = .ok rs := by
  have h0 : rs ≠ [] := fun z => by
    have := ok.n1
    rw [z] at this
    exact absurd this (by decide)
  have hk : ∀ r ∈ rs, RlOk r := fun r hr => rlOk_of (ok.ok r hr)
  exact all_fwd hk h0 ok.n12 (toks_words (It.rules hk h0).wd)
/-! their lengths -/
theorem joinL_le {g : List Nat} {B : Nat} : ∀ {xs : List (List Nat)}, (∀ x ∈ xs, x.length ≤ B) → (TL.joinL g xs).length ≤ xs.length * (B + g.length)
  | [], _ => by simp [TL.joinL]
  | [x], h => by
    have := h x List.mem_cons_self
    simp only [TL.joinL, List.length_cons, List.length_nil]
    omega
  | x :: y :: r, h => by
    have h1 := h x List.mem_cons_self
    have h2 := joinL_le (g := g) (xs := y :: r) fun z hz => h z (List.mem_cons_of_mem _ hz)
    show (x ++ (g ++ TL.joinL g (y :: r))).length ≤ _
    rw [List.length_append, List.length_append, List.length_cons (a := x), Nat.add_mul]
    omega
theorem prL_le {g : List Nat} {p : Str × Int} (gd : Good p.1) (h1 : 1 ≤ p.2) (h4 : p.2 ≤ 4) (hg : g.length ≤ 5) : (prL g p).length ≤ 13 := by
  have h6 := gd.l6
  rw [← cL_len] at h6
  have h2 := (num_one (k := p.2) (by omega) (by omega)).1
  unfold prL
  split
  · omega
  · rw [List.length_append, List.length_append]
    omega
theorem prsL_le {b d g : List Nat} {ps : List (Str × Int)} (ok : PrsOk ps) (h3 : ps.length ≤ 3) (hb : b.length ≤ 4) (hd : d.length ≤ 8) (hg : g.length ≤ 5) : (prsL b d g ps).length ≤ 78 := by
  have := joinL_le (g := b ++ (44 :: d)) (B := 13) (xs := ps.map (prL g)) fun x hx => by
    obtain ⟨p, hp, rfl⟩ := List.mem_map.mp hx
    exact prL_le (ok.good p hp) (ok.one p hp) (ok.four p hp) hg
  rw [List.length_map, List.length_append, List.length_cons] at this
  unfold prsL
  have h5 : ps.length * (13 + (b.length + (d.length + 1))) ≤ 3 * 26 := Nat.mul_le_mul h3 (by omega)
  omega
theorem kept_le : (keptW.all fun s => decide ((cL s).length ≤ 5)) = true := by decide +kernel
theorem rlG_len (b d g : List Nat) (r : Rl) : (rlG b d g r).length ≤ 11 := by
  unfold rlG afL moL
  cases r.m <;> (split <;> simp)
theorem rlG_le {b d g : List Nat} {r : Rl} (ok : OkR r) (hb : b.length ≤ 4) (hd : d.length ≤ 8) (hg : g.length ≤ 5) : ∀ x ∈ rlG b d g r, x.length ≤ 78 := fun x hx => by
  have ko := rlOk_of ok
  have ek : ∀ s ∈ keptW, (cL s).length ≤ 78 := fun s hs => Nat.le_trans (of_decide_eq_true (List.all_eq_true.mp kept_le s hs)) (by decide)
  have en : ∀ k : Int, 0 ≤ k → k ≤ 12 → (cL (nt k)).length ≤ 78 := fun k h h2 => Nat.le_trans (num_one h h2).1 (by decide)
  unfold rlG at hx
  rcases List.mem_cons.mp hx with rfl | hx
  · exact ek _ (by decide)
  rcases List.mem_cons.mp hx with rfl | hx
  · exact en _ (by have := ok.oe; omega) (by have := ok.oe; omega)
  rcases List.mem_append.mp hx with hx | hx
  · unfold afL at hx
    split at hx
    · cases hx
    · rcases List.mem_cons.mp hx with rfl | hx
      · exact ek _ (by decide)
      · rw [List.mem_singleton.mp hx]
        exact en _ ok.oa.1 ok.oa.2
  rcases List.mem_cons.mp hx with rfl | hx
  · exact ek _ (by decide)
  rcases List.mem_cons.mp hx with rfl | hx
  · exact prsL_le ko.ws ok.w3 hb hd hg
  rcases List.mem_cons.mp hx with rfl | hx
  · exact ek _ (by decide)
  rcases List.mem_cons.mp hx with rfl | hx
  · exact prsL_le ko.gs ok.g3 hb hd hg
  cases hm : r.m with
  | none =>
    rw [hm] at hx
    cases hx
  | some k =>
    rw [hm] at hx
    have := ok.om k hm
    rcases List.mem_cons.mp hx with rfl | hx
    · exact ek _ (by decide)
    rcases List.mem_cons.mp hx with rfl | hx
    · exact ek _ (by decide)
    rw [List.mem_singleton.mp hx]
    exact en _ (by omega) (by omega)
theorem rlL_le {b d g : List Nat} {r : Rl} (ok : OkR r) (hb : b.length ≤ 4) (hd : d.length ≤ 8) (hg : g.length ≤ 5) : (rlL b d g r).length ≤ 913 := by
  have := joinL_le (g := g) (B := 78) (xs := rlG b d g r) (rlG_le ok hb hd hg)
  have l11 := rlG_len b d g r
  have h5 : (rlG b d g r).length * (78 + g.length) ≤ 11 * 83 := Nat.mul_le_mul l11 (by omega)
  unfold rlL
  omega
theorem rsL_le {rs : List Rl} (ok : Rls rs) : (rsL rs).length ≤ 10980 := by
  have := joinL_le (g := [59, 32]) (B := 913) (xs := rs.map plL) fun x hx => by
    obtain ⟨r, hr, rfl⟩ := List.mem_map.mp hx
    exact rlL_le (ok.ok r hr) (by decide) (by decide) (by decide)
  rw [List.length_map] at this
  have h5 : rs.length * (913 + [59, 32].length) ≤ 12 * 915 := Nat.mul_le_mul ok.n12 (Nat.le_refl _)
  unfold rsL
  omega
end Hl

set_option Elab.async false
set_option linter.all false
set_option maxRecDepth 100000
set_option maxHeartbeats 4000000
namespace Hw
open PySem PySem.Spec PyProof.Rows L2 Hl LamX
abbrev sWhy : Stmt := topS 47
theorem scWhy : FnScope ["_law_ask", "e"] ["_law_ask"] (defScope sWhy) := ⟨rfl, rfl, rfl, by decide +kernel, rfl, by decide +kernel, by decide +kernel⟩
theorem Takes.len {X : Cx} {W : WX} (t : Takes X W) : Takes X (fun cls d σ H => σ.length = X.N.length → W cls d σ H) := fun u s' ⟨a, B, sI, pins, σ, H, cls, d, e, I, nb, up, sky, na, os, ag, w⟩ => t u s' ⟨a, B, sI, pins, σ, H, cls, d, e, I, nb, up, sky, na, os, ag, w I.len⟩
/-- the classes by their names, as the clauses name them -/
abbrev cls1 : List Str := ["BadName", "Taken", "NoLetter", "NoOutlet", "NoMachine", "NoWeb", "NoRun"]
abbrev cls2 : List Str := ["BadRow", "BadText", "BadDeed"]
abbrev cls3 : List Str := ["Unreached", "Gone", "NoStand"]
structure ErrA where
  l1 : List Addr
  l2 : List Addr
  l3 : List Addr
  e4 : Addr
  e5 : Addr
  e6 : Addr
  e7 : Addr
structure Errs (mg : Str → Option Value) (E : ErrA) : Prop where
  h1 : Paired (fun x a => mg x = some (.ref a)) cls1 E.l1
  h2 : Paired (fun x a => mg x = some (.ref a)) cls2 E.l2
  h3 : Paired (fun x a => mg x = some (.ref a)) cls3 E.l3
  h4 : mg "Heeds" = some (.ref E.e4)
  h5 : mg "NoneWaits" = some (.ref E.e5)
  h6 : mg "HeedError" = some (.ref E.e6)
  h7 : mg "Lacking" = some (.ref E.e7)
/-- the clauses of _law_why -/
def whyL (K : PySem.W.Frag) (E : ErrA) : List (List Value × Suit) :=
  [(E.l1.map Value.ref, tFs K ["word", "name"]), (E.l2.map Value.ref, tFs K ["word", "at"]), (E.l3.map Value.ref, tFs K ["word", "stand"]), ([.ref E.e4], tFs K ["word", "stand", "one", "other"]), ([.ref E.e5], tFs K ["word", "name", "letter"]), ([.ref E.e6], tFs K ["word"]), ([.ref E.e7], tFs K ["word"])]
/-- what was told, in its tuple -/
def toldK (Q : VK) : VK := fun v H1 => [V.str "told", v].length ≤ sizeLine ∧ ∀ p, H1 p = none → Q (.ref p) (upd H1 p (.tup [.str "told", v]))
/-- what becomes of an error -/
def whyE (K : PySem.W.Frag) (E : ErrA) (Q : VK) : XK := fun cls d H' => ∀ σ : L2.St, σ.length = 2 → wWhy K 1 (fun _ _ _ _ => False) { nx := fun _ H' => Q .non H', rt := Q } (whyL K E) cls d σ H'
def TWhy (K : PySem.W.Frag) (E : ErrA) : (XK → Hp → VK → Prop) → Hp → VK → Prop := fun tl H Q => tl (whyE K E Q) H (toldK Q)
theorem why_gives {X : Cx} {g : Addr} {cdg : Value} {q : Str} {E : ErrA} (er : Errs X.mg E) : GivesTo X ["_law_ask", "e"] "_law_why" (defScope sWhy) g cdg (defBody sWhy) "_law_ask" q (TWhy X.K E) := by
  intro f c' s H Q tl act hc h
  refine ⟨_, pss_one (ps_try_why (X := (cxOf C8.CX0 X.prog X.w X.K X.mg X.base ["_law_ask", "e"] "_law_why" (defScope sWhy) g cdg X.A X.stack s H C8.E0).nox) (i := 1) (n := "e") (l := whyL X.K E)
      (tb := fun (W : WX) (D : Ends) (σ : L2.St) (H : Hp) => ∃ Ech : XK, (∀ (cls : Value) (d : Option Addr) (σ' : L2.St) (H' : Hp), Ech cls d H' → σ'.length = 2 → W cls d σ' H') ∧ σ[0]? = some (some (V.ref f)) ∧ H c' = some (CodeO c' q) ∧ tl Ech H (toldK D.rt))
      rfl rfl scWhy.nd rfl rfl LamX.takes0 (fun W pn xe tk _ => ?_) ?_), ?_⟩
  · refine ⟨fun pins s' σ H' D I h' => ?_⟩
    obtain ⟨Ech, hW, h1, h2, h3⟩ := h'
    refine PSs.run (pss_one (ps_ret (pe_tup (pa_cons pe_str (pa_cons (act (fun cls d σ H => σ.length = 2 → W cls d σ H) pn xe Ech _ _ (Takes.len tk) (fun cls d σ' H' e hl => hW cls d σ' H' e hl)) pa_nil))))) pins s' σ H' D I ?_
    exact ⟨h1, h2, h3⟩
  · obtain ⟨m1, m2, m3, e4, e5, e6, e7⟩ := E
    obtain ⟨h1, h2, h3, h4, h5, h6, h7⟩ := er
    match m1, m2, m3, h1, h2, h3 with
    | _, _, _, .cons a1 (.cons a2 (.cons a3 (.cons a4 (.cons a5 (.cons a6 (.cons a7 .nil)))))), .cons b1 (.cons b2 (.cons b3 .nil)), .cons c1 (.cons c2 (.cons c3 .nil)) =>
    exact HdsW.cons (.many (.cons ⟨rfl, by decide, .inl (a1)⟩ (.cons ⟨rfl, by decide, .inl (a2)⟩ (.cons ⟨rfl, by decide, .inl (a3)⟩ (.cons ⟨rfl, by decide, .inl (a4)⟩ (.cons ⟨rfl, by decide, .inl (a5)⟩ (.cons ⟨rfl, by decide, .inl (a6)⟩ (.cons ⟨rfl, by decide, .inl (a7)⟩ .nil))))))) (by show 7 ≤ 1000; decide)) (fun a oe cls d pn hz hf => pss_one (ps_ret (pe_tup (pa_cons (pe_xa (i := 1) hz hf rfl (Or.inl rfl)) (pa_cons (pe_xa (i := 1) hz hf rfl (Or.inl rfl)) pa_nil)))))
      (HdsW.cons (.many (.cons ⟨rfl, by decide, .inl (b1)⟩ (.cons ⟨rfl, by decide, .inl (b2)⟩ (.cons ⟨rfl, by decide, .inl (b3)⟩ .nil))) (by show 3 ≤ 1000; decide)) (fun a oe cls d pn hz hf => pss_one (ps_ret (pe_tup (pa_cons (pe_xa (i := 1) hz hf rfl (Or.inl rfl)) (pa_cons (pe_xa (i := 1) hz hf rfl (Or.inl rfl)) pa_nil)))))
      (HdsW.cons (.many (.cons ⟨rfl, by decide, .inl (c1)⟩ (.cons ⟨rfl, by decide, .inl (c2)⟩ (.cons ⟨rfl, by decide, .inl (c3)⟩ .nil))) (by show 3 ≤ 1000; decide)) (fun a oe cls d pn hz hf => pss_one (ps_ret (pe_tup (pa_cons (pe_xa (i := 1) hz hf rfl (Or.inl rfl)) (pa_cons (pe_xa (i := 1) hz hf rfl (Or.inl rfl)) pa_nil)))))
      (HdsW.cons (.one ⟨rfl, by decide, .inl (h4)⟩) (fun a oe cls d pn hz hf => pss_one (ps_ret (pe_tup (pa_cons (pe_xa (i := 1) hz hf rfl (Or.inl rfl)) (pa_cons (pe_xa (i := 1) hz hf rfl (Or.inl rfl)) (pa_cons (pe_xa (i := 1) hz hf rfl (Or.inl rfl)) (pa_cons (pe_xa (i := 1) hz hf rfl (Or.inl rfl)) pa_nil)))))))
      (HdsW.cons (.one ⟨rfl, by decide, .inl (h5)⟩) (fun a oe cls d pn hz hf => pss_one (ps_ret (pe_tup (pa_cons (pe_xa (i := 1) hz hf rfl (Or.inl rfl)) (pa_cons (pe_xa (i := 1) hz hf rfl (Or.inl rfl)) (pa_cons (pe_xa (i := 1) hz hf rfl (Or.inl rfl)) pa_nil))))))
      (HdsW.cons (.one ⟨rfl, by decide, .inl (h6)⟩) (fun a oe cls d pn hz hf => pss_one (ps_ret (pe_tup (pa_cons (pe_xa (i := 1) hz hf rfl (Or.inl rfl)) pa_nil))))
      (HdsW.cons (.one ⟨rfl, by decide, .inl (h7)⟩) (fun a oe cls d pn hz hf => pss_one (ps_ret (pe_tup (pa_cons (pe_xa (i := 1) hz hf rfl (Or.inl rfl)) pa_nil))))
      HdsW.nil))))))
  · exact ⟨_, fun cls d σ' H' e hl => e σ' hl, rfl, hc, h⟩
/-- _law_why(lambda: body) -/
theorem pe_why {X : Cx} {E : ErrA} {g c P : Addr} {fd : FuncData} {k : Nat} {params : Arguments} {body : Expr} {scope : Scope} {t : XK → TE} {p lpos pos : Pos} (F : Fun X.K "_law_why" "_law_why" sWhy g fd) (gW : X.mg "_law_why" = some (.ref g)) (er : Errs X.mg E) (hg : Gl X "_law_why")
    (TB : TabB X.base X.mg c P) (hcode : X.env.code = .ref c) (hr : Room (k + 2) X.A) (L : LamS X.env.scope scope) (hdef : defaultsOf params X.env = ([], []))
    (hbind : ∀ (q : Str) (cl : List (Str × Addr)) (pm cv ctv : Value), bindArgs (PySem.W.kla_fn "<lambda>" q params body scope cl pm cv ctv) ⟨[], []⟩ = pure [])
    (hbody : ∀ (A : Around) (outer : List Env) (s : Shared) (H : Hp) (E : XK) (f c' : Addr), Room k (A.deeper (lamEnv X scope s.heap.objs.size f c')) → PE (lamCx X A outer s H E scope f c') body (t E)) :
    PE X (.Call (.Name "_law_why" p) [.Lambda params body scope lpos] [] pos) (tLam [(P, X.env.qual ++ "<lambda>")] (TWhy X.K E) t) := by
  have b := F.binds (ps := ["_law_ask"]) fun _ _ _ _ _ _ us hl => match us, hl with | [_], _ => rfl
  obtain ⟨oc, od, kV, doc, pm, an, cdv, ct, osl, rfl, lk, hcd⟩ := F.ex
  exact pe_lamcall (a := "_law_ask") hg gW F.kp lk hcd b scWhy rfl (.inl rfl) (why_gives er) TB hcode (List.mem_singleton.mpr rfl) (fun p hp _ => by cases List.mem_singleton.mp hp; rfl) hr L hdef hbind hbody
section
variable {K : PySem.W.Frag} {E : ErrA} {Q : VK} {C d : Addr} {H : Hp} {xs : List (Str × V)} {vs : List V}
theorem why_1  (w1 : PySem.W.exmAny K (.ref C) (E.l1.map Value.ref) = some true) (xf : XfC K C) (hd : H d = some (.xd xs)) (p : Paired (fun f v => PySem.W.findIn K (.ref C) f = some none ∧ xs.lookup f = some v) ["word", "name"] vs) (small : vs.length ≤ 1000) (q : ∀ p, H p = none → Q (.ref p) (upd H p (.tup vs))) : whyE K E Q (.ref C) (some d) H := fun σ hσ =>
  why_at (i := 1) (W := fun _ _ _ _ => False) (D := { nx := fun _ H' => Q .non H', rt := Q }) (l1 := []) w1 (fun e _ => fs_fin xf hd (by match σ, hσ with | [_, _], _ => rfl) p small q) (fun p hp => by cases hp)
theorem why_2 (w1 : PySem.W.exmAny K (.ref C) (E.l1.map Value.ref) = some false) (w2 : PySem.W.exmAny K (.ref C) (E.l2.map Value.ref) = some true) (xf : XfC K C) (hd : H d = some (.xd xs)) (p : Paired (fun f v => PySem.W.findIn K (.ref C) f = some none ∧ xs.lookup f = some v) ["word", "at"] vs) (small : vs.length ≤ 1000) (q : ∀ p, H p = none → Q (.ref p) (upd H p (.tup vs))) : whyE K E Q (.ref C) (some d) H := fun σ hσ =>
  why_at (i := 1) (W := fun _ _ _ _ => False) (D := { nx := fun _ H' => Q .non H', rt := Q }) (l1 := [(E.l1.map Value.ref, tFs K ["word", "name"])]) w2 (fun e _ => fs_fin xf hd (by match σ, hσ with | [_, _], _ => rfl) p small q) (fun p hp => by
    simp only [List.mem_cons, List.not_mem_nil, or_false] at hp
    rcases hp with rfl
    · exact w1)
theorem why_3 (w1 : PySem.W.exmAny K (.ref C) (E.l1.map Value.ref) = some false) (w2 : PySem.W.exmAny K (.ref C) (E.l2.map Value.ref) = some false) (w3 : PySem.W.exmAny K (.ref C) (E.l3.map Value.ref) = some true) (xf : XfC K C) (hd : H d = some (.xd xs)) (p : Paired (fun f v => PySem.W.findIn K (.ref C) f = some none ∧ xs.lookup f = some v) ["word", "stand"] vs) (small : vs.length ≤ 1000) (q : ∀ p, H p = none → Q (.ref p) (upd H p (.tup vs))) : whyE K E Q (.ref C) (some d) H := fun σ hσ =>
  why_at (i := 1) (W := fun _ _ _ _ => False) (D := { nx := fun _ H' => Q .non H', rt := Q }) (l1 := [(E.l1.map Value.ref, tFs K ["word", "name"]), (E.l2.map Value.ref, tFs K ["word", "at"])]) w3 (fun e _ => fs_fin xf hd (by match σ, hσ with | [_, _], _ => rfl) p small q) (fun p hp => by
    simp only [List.mem_cons, List.not_mem_nil, or_false] at hp
    rcases hp with rfl | rfl
    · exact w1
    · exact w2)
theorem why_4 (w1 : PySem.W.exmAny K (.ref C) (E.l1.map Value.ref) = some false) (w2 : PySem.W.exmAny K (.ref C) (E.l2.map Value.ref) = some false) (w3 : PySem.W.exmAny K (.ref C) (E.l3.map Value.ref) = some false) (w4 : PySem.W.exmAny K (.ref C) ([.ref E.e4]) = some true) (xf : XfC K C) (hd : H d = some (.xd xs)) (p : Paired (fun f v => PySem.W.findIn K (.ref C) f = some none ∧ xs.lookup f = some v) ["word", "stand", "one", "other"] vs) (small : vs.length ≤ 1000) (q : ∀ p, H p = none → Q (.ref p) (upd H p (.tup vs))) : whyE K E Q (.ref C) (some d) H := fun σ hσ =>
  why_at (i := 1) (W := fun _ _ _ _ => False) (D := { nx := fun _ H' => Q .non H', rt := Q }) (l1 := [(E.l1.map Value.ref, tFs K ["word", "name"]), (E.l2.map Value.ref, tFs K ["word", "at"]), (E.l3.map Value.ref, tFs K ["word", "stand"])]) w4 (fun e _ => fs_fin xf hd (by match σ, hσ with | [_, _], _ => rfl) p small q) (fun p hp => by
    simp only [List.mem_cons, List.not_mem_nil, or_false] at hp
    rcases hp with rfl | rfl | rfl
    · exact w1
    · exact w2
    · exact w3)
theorem why_5 (w1 : PySem.W.exmAny K (.ref C) (E.l1.map Value.ref) = some false) (w2 : PySem.W.exmAny K (.ref C) (E.l2.map Value.ref) = some false) (w3 : PySem.W.exmAny K (.ref C) (E.l3.map Value.ref) = some false) (w4 : PySem.W.exmAny K (.ref C) ([.ref E.e4]) = some false) (w5 : PySem.W.exmAny K (.ref C) ([.ref E.e5]) = some true) (xf : XfC K C) (hd : H d = some (.xd xs)) (p : Paired (fun f v => PySem.W.findIn K (.ref C) f = some none ∧ xs.lookup f = some v) ["word", "name", "letter"] vs) (small : vs.length ≤ 1000) (q : ∀ p, H p = none → Q (.ref p) (upd H p (.tup vs))) : whyE K E Q (.ref C) (some d) H := fun σ hσ =>
  why_at (i := 1) (W := fun _ _ _ _ => False) (D := { nx := fun _ H' => Q .non H', rt := Q }) (l1 := [(E.l1.map Value.ref, tFs K ["word", "name"]), (E.l2.map Value.ref, tFs K ["word", "at"]), (E.l3.map Value.ref, tFs K ["word", "stand"]), ([.ref E.e4], tFs K ["word", "stand", "one", "other"])]) w5 (fun e _ => fs_fin xf hd (by match σ, hσ with | [_, _], _ => rfl) p small q) (fun p hp => by
    simp only [List.mem_cons, List.not_mem_nil, or_false] at hp
    rcases hp with rfl | rfl | rfl | rfl
    · exact w1
    · exact w2
    · exact w3
    · exact w4)
theorem why_6 (w1 : PySem.W.exmAny K (.ref C) (E.l1.map Value.ref) = some false) (w2 : PySem.W.exmAny K (.ref C) (E.l2.map Value.ref) = some false) (w3 : PySem.W.exmAny K (.ref C) (E.l3.map Value.ref) = some false) (w4 : PySem.W.exmAny K (.ref C) ([.ref E.e4]) = some false) (w5 : PySem.W.exmAny K (.ref C) ([.ref E.e5]) = some false) (w6 : PySem.W.exmAny K (.ref C) ([.ref E.e6]) = some true) (xf : XfC K C) (hd : H d = some (.xd xs)) (p : Paired (fun f v => PySem.W.findIn K (.ref C) f = some none ∧ xs.lookup f = some v) ["word"] vs) (small : vs.length ≤ 1000) (q : ∀ p, H p = none → Q (.ref p) (upd H p (.tup vs))) : whyE K E Q (.ref C) (some d) H := fun σ hσ =>
  why_at (i := 1) (W := fun _ _ _ _ => False) (D := { nx := fun _ H' => Q .non H', rt := Q }) (l1 := [(E.l1.map Value.ref, tFs K ["word", "name"]), (E.l2.map Value.ref, tFs K ["word", "at"]), (E.l3.map Value.ref, tFs K ["word", "stand"]), ([.ref E.e4], tFs K ["word", "stand", "one", "other"]), ([.ref E.e5], tFs K ["word", "name", "letter"])]) w6 (fun e _ => fs_fin xf hd (by match σ, hσ with | [_, _], _ => rfl) p small q) (fun p hp => by
    simp only [List.mem_cons, List.not_mem_nil, or_false] at hp
    rcases hp with rfl | rfl | rfl | rfl | rfl
    · exact w1
    · exact w2
    · exact w3
    · exact w4
    · exact w5)
theorem why_7 (w1 : PySem.W.exmAny K (.ref C) (E.l1.map Value.ref) = some false) (w2 : PySem.W.exmAny K (.ref C) (E.l2.map Value.ref) = some false) (w3 : PySem.W.exmAny K (.ref C) (E.l3.map Value.ref) = some false) (w4 : PySem.W.exmAny K (.ref C) ([.ref E.e4]) = some false) (w5 : PySem.W.exmAny K (.ref C) ([.ref E.e5]) = some false) (w6 : PySem.W.exmAny K (.ref C) ([.ref E.e6]) = some false) (w7 : PySem.W.exmAny K (.ref C) ([.ref E.e7]) = some true) (xf : XfC K C) (hd : H d = some (.xd xs)) (p : Paired (fun f v => PySem.W.findIn K (.ref C) f = some none ∧ xs.lookup f = some v) ["word"] vs) (small : vs.length ≤ 1000) (q : ∀ p, H p = none → Q (.ref p) (upd H p (.tup vs))) : whyE K E Q (.ref C) (some d) H := fun σ hσ =>
  why_at (i := 1) (W := fun _ _ _ _ => False) (D := { nx := fun _ H' => Q .non H', rt := Q }) (l1 := [(E.l1.map Value.ref, tFs K ["word", "name"]), (E.l2.map Value.ref, tFs K ["word", "at"]), (E.l3.map Value.ref, tFs K ["word", "stand"]), ([.ref E.e4], tFs K ["word", "stand", "one", "other"]), ([.ref E.e5], tFs K ["word", "name", "letter"]), ([.ref E.e6], tFs K ["word"])]) w7 (fun e _ => fs_fin xf hd (by match σ, hσ with | [_, _], _ => rfl) p small q) (fun p hp => by
    simp only [List.mem_cons, List.not_mem_nil, or_false] at hp
    rcases hp with rfl | rfl | rfl | rfl | rfl | rfl
    · exact w1
    · exact w2
    · exact w3
    · exact w4
    · exact w5
    · exact w6)
end
section
variable {P : Program} {w : World} {K : PySem.W.Frag} {mg : Str → Option Value} {base : Heap}
/-! HeedError.__init__ -/
abbrev sUpV : Stmt := inClass (topS 1) 0
theorem scUpV : FnScope ["self", "word", "about"] ["self", "word", "about"] (defScope sUpV) := ⟨rfl, rfl, rfl, by decide +kernel, rfl, by decide +kernel, by decide +kernel⟩
theorem ok_upV {f : Addr} {fd : FuncData} {dvs : List V} {kws : List (Str × V)} {k : Nat} (F : FunD K "__init__" "HeedError.__init__" (defArgs sUpV) (defBody sUpV) (defScope sUpV) dvs kws f fd) (mV : mg "ValueError" = none)
    (vV : PySem.W.findCls K (.type "ValueError") (.type "type") "__init__" = some (.val (.builtin "ValueError.__init__"))) : FnOk P w K mg base CX0 (k + 1) f fd ["self", "word", "about"] (spBase K "ValueError.__new__" tlV) := by
  refine F.ok scUpV (fun vs H Q E h => ?_) (fun cdv A outer s H vs Q E hr h => ?_)
  · obtain ⟨a, C, wd, ab, rfl, _⟩ := h
    rfl
  · obtain ⟨a, C, wd, ab, rfl, hl, T, nw, ha, q⟩ := h
    refine ⟨_, PSs.nox (pss_cons (ps_expr (pe_binit bseV PyProof.Rows.Boot.«ValueError» (by rfl) mV vV (pa_cons (pv 0) (pa_cons (pe_op op_add_str (pv 1) (pv 2)) pa_nil)))) (pss_one (ps_st bseV (pv 0) (pv 1)))), ?_⟩
    refine ⟨_, rfl, _, rfl, _, rfl, wd, ab, rfl, rfl, Nat.le_of_lt (small1000 hl), a, C, _, rfl, (by show 1 ≤ 1000; decide), T, ha, ?_⟩
    exact ⟨_, rfl, _, rfl, a, C, rfl, T, nw, .inl ⟨ha, fun dx n1 n2 => q dx n1 n2⟩⟩
/-! BadSize -/
abbrev sEBadSize : Stmt := inClass (topS 2) 0
theorem scEBadSize : FnScope ["self"] ["self"] (defScope sEBadSize) := ⟨rfl, rfl, rfl, by decide +kernel, rfl, by decide +kernel, by decide +kernel⟩
theorem ok_eBadSize {f fB cB : Addr} {fd fdB : FuncData} {mc : Value} {ds : List Value} {k : Nat} (F : Fun K "__init__" "BadSize.__init__" sEBadSize f fd) (GB : FnOk P w K mg base CX0 (k + 1) fB fdB ["self", "word", "about"] (spBase K "ValueError.__new__" tlV))
    (kB : PySem.W.keepIn K (.ref fB) = true) (bB : Binds K fdB ["self", "word", "about"] ds) (vB : Vals [.str ""] ds) (r : ClX.CRead K cB mc) (c : ClX.CVal K cB mc "__init__" (.ref fB) (.ref fB)) (gB : mg "HeedError" = some (.ref cB)) :
    FnOk P w K mg base CX0 (k + 2) f fd ["self"] (spErr K "ValueError.__new__" tlV 0 (errF "BadSize" [])) := by
  refine F.ok scEBadSize (fun vs H Q E h => ?_) (fun cdv A outer s H vs Q E hr h => ?_)
  · obtain ⟨a, C, ws, rfl, hl, _⟩ := h
    show ws.length + 1 = _
    rw [hl]
    rfl
  · obtain ⟨a, C, ws, rfl, hl, ar, T, nf, ha, q⟩ := h
    match ws, hl with
    | [], _ =>
    refine ⟨_, (pss_one (ps_expr (pe_callC r c GB hr (by rfl) gB kB bB vB pass0 (pa_cons (pv 0) (pa_cons pe_str pa_nil))))), ?_⟩
    exact ⟨_, rfl, a, C, _, _, rfl, by decide +kernel, T, (nf (("word" : Str), V.str "BadSize") (by simp [errF])), ha, fun dx n1 n2 => q dx n1 n2⟩
/-! BadText -/
abbrev sEBadText : Stmt := inClass (topS 7) 0
theorem scEBadText : FnScope ["self", "at"] ["self", "at"] (defScope sEBadText) := ⟨rfl, rfl, rfl, by decide +kernel, rfl, by decide +kernel, by decide +kernel⟩
theorem ok_eBadText {f fB cB : Addr} {fd fdB : FuncData} {mc : Value} {ds : List Value} {k : Nat} (F : Fun K "__init__" "BadText.__init__" sEBadText f fd) (GB : FnOk P w K mg base CX0 (k + 1) fB fdB ["self", "word", "about"] (spBase K "ValueError.__new__" tlV))
    (kB : PySem.W.keepIn K (.ref fB) = true) (bB : Binds K fdB ["self", "word", "about"] ds) (vB : Vals [] ds) (r : ClX.CRead K cB mc) (c : ClX.CVal K cB mc "__init__" (.ref fB) (.ref fB)) (gB : mg "HeedError" = some (.ref cB)) :
    FnOk P w K mg base CX0 (k + 2) f fd ["self", "at"] (spErr K "ValueError.__new__" tlV 1 (errF "BadText" ["at"])) := by
  refine F.ok scEBadText (fun vs H Q E h => ?_) (fun cdv A outer s H vs Q E hr h => ?_)
  · obtain ⟨a, C, ws, rfl, hl, _⟩ := h
    show ws.length + 1 = _
    rw [hl]
    rfl
  · obtain ⟨a, C, ws, rfl, hl, ar, T, nf, ha, q⟩ := h
    match ws, hl with
    | [v1], _ =>
    cases vB
    obtain ⟨y1, t1⟩ := ar v1 (by simp)
    have z1 := t1.len
    refine ⟨_, (pss_cons (ps_expr (pe_callC r c GB hr (by rfl) gB kB bB .nil pass0 (pa_cons (pv 0) (pa_cons pe_str (pa_cons (pe_joined (PJ.cons pe_str (PJ.cons (pe_fmtR (pv 1)) PJ.nil))) pa_nil)))))
      (pss_one (ps_st bseV (pv 0) (pv 1)))), ?_⟩
    have sz : ∀ m : Nat, m ≤ 999 → m ≤ sizeLine := fun m h => Nat.le_of_lt (small1000 (by omega))
    have e1 : (": " : Str).length = 2 := by decide +kernel
    have e0 : Str.empty.length = 0 := rfl
    have ew : ("BadText" : Str).length = 7 := by decide +kernel
    refine ⟨_, rfl, ?_⟩
    refine ⟨_, rfl, sz _ (by simp only [PySem.Str.length_append]; omega), ?_⟩
    refine fmtR_var t1 rfl ?_
    refine ⟨_, rfl, sz _ (by simp only [PySem.Str.length_append]; omega), ?_⟩
    refine ⟨a, C, _, _, rfl, by simp only [PySem.Str.length_append]; omega, T, (nf (("word" : Str), V.str "BadText") (by simp [errF])), ha, fun dx n1 n2 => ?_⟩
    refine ⟨_, rfl, _, rfl, a, C, rfl, T, nf (("at" : Str), v1) (by simp [errF]), .inr ⟨dx, _, upd_same, by rw [upd_ne n2, upd_same], by simp, ?_⟩⟩
    rw [upd_back n2]
    exact q dx n1 n2
end
end Hw

set_option Elab.async false
set_option linter.all false
set_option maxRecDepth 100000
set_option maxHeartbeats 4000000
namespace Hl
open PySem PySem.Spec PyProof.Rows L2 Tk
abbrev sIsn : Stmt := topS 22
abbrev sSg : Stmt := topS 24
abbrev sPe : Stmt := topS 25
abbrev sPc : Stmt := topS 26
structure HasX (P : Program) (w : World) (K : PySem.W.Frag) (mg : Str → Option Value) (base : Heap) (CX : CXT) (k : Nat) (x : Str) (ps : List Str) (sp : Sp) (f : Addr) (fd : FuncData) : Prop where
  G : FnOk P w K mg base CX k f fd ps sp
  kp : PySem.W.keepIn K (.ref f) = true
  b : Binds K fd ps []
  g : mg x = some (.ref f)
abbrev Has (P : Program) (w : World) (K : PySem.W.Frag) (mg : Str → Option Value) (base : Heap) (k : Nat) (x : Str) (ps : List Str) (sp : Sp) (f : Addr) (fd : FuncData) : Prop := HasX P w K mg base CX0 k x ps sp f fd
/-- the name of a group -/
def gW (g : Nat) : Str := if g = 2 then "word" else if g = 1 then "number" else "mark"
theorem grp_lt (c : Nat) : grp c < 3 := by
  unfold grp
  split
  · decide
  · split <;> decide
theorem gW_eq {a b : Nat} (ha : a < 3) (hb : b < 3) : (gW a = gW b) ↔ a = b := by
  have ha' : a = 0 ∨ a = 1 ∨ a = 2 := by omega
  have hb' : b = 0 ∨ b = 1 ∨ b = 2 := by omega
  rcases ha' with rfl | rfl | rfl <;> rcases hb' with rfl | rfl | rfl <;> decide +kernel
theorem cp_a : ("a" : Str).cps.toList = [97] := by decide +kernel
theorem cp_z : ("z" : Str).cps.toList = [122] := by decide +kernel
theorem cp_0 : ("0" : Str).cps.toList = [48] := by decide +kernel
theorem cp_9 : ("9" : Str).cps.toList = [57] := by decide +kernel
theorem one_le {a b : Nat} : (!decide (([b] : List Nat) < [a])) = decide (a ≤ b) := by
  by_cases h : a ≤ b
  · have : ¬ ([b] : List Nat) < [a] := fun z => by
      rcases List.cons_lt_cons_iff.mp z with h1 | h1
      · omega
      · exact absurd h1.2 (by simp)
    rw [decide_eq_true h, decide_eq_false this]
    rfl
  · have : ([b] : List Nat) < [a] := List.cons_lt_cons_iff.mpr (.inl (by omega))
    rw [decide_eq_false h, decide_eq_true this]
    rfl
section
variable {P : Program} {w : World} {K : PySem.W.Frag} {mg : Str → Option Value} {base : Heap}
/-! sign_group -/
def spSg : Sp := fun vs H Q _ => ∃ c : Nat, vs = [.str ⟨#[c]⟩] ∧ Q (.str (gW (grp c))) H
theorem scSg : FnScope ["sign"] ["sign"] (defScope sSg) := ⟨rfl, rfl, rfl, by decide +kernel, rfl, by decide +kernel, by decide +kernel⟩
theorem ok_sg {f : Addr} {fd : FuncData} {k : Nat} (F : Fun K "sign_group" "sign_group" sSg f fd) : FnOk P w K mg base CX0 (k + 1) f fd ["sign"] spSg := by
  refine F.ok scSg (fun vs H Q E h => ?_) (fun cdv A outer s H vs Q E hr h => ?_)
  · obtain ⟨c, rfl, _⟩ := h
    rfl
  · obtain ⟨c, rfl, q⟩ := h
    refine ⟨_, Evl.pss_cut (ps_if (pt_chain op_le_str op_le_str pe_str (pv 0) pe_str) (pss_one (ps_ret pe_str)) pss_nil)
      (Evl.pss_cut (ps_if (pt_chain op_le_str op_le_str pe_str (pv 0) pe_str) (pss_one (ps_ret pe_str)) pss_nil)
      (pss_one (ps_ret pe_str))), ?_⟩
    have e1 : (!decide ((⟨#[c]⟩ : Str).cps.toList < ("a" : Str).cps.toList)) = decide (97 ≤ c) := by rw [cp_a]; exact one_le
    have e2 : (!decide (("z" : Str).cps.toList < (⟨#[c]⟩ : Str).cps.toList)) = decide (c ≤ 122) := by rw [cp_z]; exact one_le
    have e3 : (!decide ((⟨#[c]⟩ : Str).cps.toList < ("0" : Str).cps.toList)) = decide (48 ≤ c) := by rw [cp_0]; exact one_le
    have e4 : (!decide (("9" : Str).cps.toList < (⟨#[c]⟩ : Str).cps.toList)) = decide (c ≤ 57) := by rw [cp_9]; exact one_le
    refine ⟨fun σ' H' => σ' = [some (.str ⟨#[c]⟩)] ∧ H = H' ∧ ¬ (97 ≤ c ∧ c ≤ 122), ?_, ?_⟩
    · refine ⟨_, rfl, _, _, rfl, rfl, _, rfl, ?_⟩
      refine ite2 (fun h => ?_) (fun h => ⟨_, rfl, iteF ⟨rfl, rfl, fun z => h (by rw [e1]; exact decide_eq_true z.1)⟩⟩)
      rw [e1] at h
      refine ⟨_, _, rfl, rfl, _, rfl, ite2 (fun h2 => ?_) (fun h2 => ⟨rfl, rfl, fun z => h2 (by rw [e2]; exact decide_eq_true z.2)⟩)⟩
      rw [e2] at h2
      have g2 : grp c = 2 := by
        unfold grp
        rw [if_pos ⟨of_decide_eq_true h, of_decide_eq_true h2⟩]
      rw [g2] at q
      exact q
    rintro σ' H' ⟨rfl, rfl, n1⟩
    refine ⟨fun σ' H' => σ' = [some (.str ⟨#[c]⟩)] ∧ H = H' ∧ ¬ (48 ≤ c ∧ c ≤ 57), ?_, ?_⟩
    · refine ⟨_, rfl, _, _, rfl, rfl, _, rfl, ?_⟩
      refine ite2 (fun h => ?_) (fun h => ⟨_, rfl, iteF ⟨rfl, rfl, fun z => h (by rw [e3]; exact decide_eq_true z.1)⟩⟩)
      rw [e3] at h
      refine ⟨_, _, rfl, rfl, _, rfl, ite2 (fun h2 => ?_) (fun h2 => ⟨rfl, rfl, fun z => h2 (by rw [e4]; exact decide_eq_true z.2)⟩)⟩
      rw [e4] at h2
      have g1 : grp c = 1 := by
        unfold grp
        rw [if_neg n1, if_pos ⟨of_decide_eq_true h, of_decide_eq_true h2⟩]
      rw [g1] at q
      exact q
    rintro σ' H' ⟨rfl, rfl, n2⟩
    have g0 : grp c = 0 := by
      unfold grp
      rw [if_neg n1, if_neg n2]
    rw [g0] at q
    exact q
/-! piece_end -/
theorem run_step {g : Nat} : ∀ (s : List Nat) (j c : Nat), j ≤ (s.takeWhile fun c => grp c == g).length → s[j]? = some c → (grp c = g → j + 1 ≤ (s.takeWhile fun c => grp c == g).length) ∧ (grp c ≠ g → j = (s.takeWhile fun c => grp c == g).length)
  | [], j, c, _, h => by cases h
  | d :: s, j, c, hj, h => by
    rw [List.takeWhile_cons] at hj ⊢
    cases e : grp d == g with
    | false =>
      rw [e] at hj
      have : j = 0 := by simpa using hj
      subst this
      cases h
      exact ⟨fun z => absurd z (beq_eq_false_iff_ne.mp e), fun _ => rfl⟩
    | true =>
      rw [e] at hj
      cases j with
      | zero =>
        cases h
        exact ⟨fun _ => by simp, fun z => absurd (beq_iff_eq.mp e) z⟩
      | succ j =>
        have := run_step (g := g) s j c (by simpa using hj) h
        refine ⟨fun z => by have := this.1 z; simpa using this, fun z => by have := this.2 z; simpa using this⟩
def spPe : Sp := fun vs H Q _ => ∃ (z : Str) (i c : Nat), vs = [.str z, .int (i : Nat)] ∧ (cL z)[i]? = some c ∧ z.length ≤ 1000000 ∧ Q (.int ((i + 1 + run (grp c) ((cL z).drop (i + 1)) : Nat) : Int)) H
theorem scPe : FnScope ["text", "at", "group", "end"] ["text", "at"] (defScope sPe) := ⟨rfl, rfl, rfl, by decide +kernel, rfl, by decide +kernel, by decide +kernel⟩
theorem ok_pe {f fS : Addr} {fd fdS : FuncData} {k : Nat} (F : Fun K "piece_end" "piece_end" sPe f fd) (B : Bi mg) (Sg : Has P w K mg base k "sign_group" ["sign"] spSg fS fdS) : FnOk P w K mg base CX0 (k + 1) f fd ["text", "at"] spPe := by
  refine F.ok scPe (fun vs H Q E h => ?_) (fun cdv A outer s H vs Q E hr h => ?_)
  · obtain ⟨z, i, c, rfl, _⟩ := h
    rfl
  · obtain ⟨z, i, c, rfl, hc, hl, q⟩ := h
    refine ⟨_, pss_cons (ps_set (i := 2) scPe.nd rfl (.inl rfl) (pe_call Sg.G hr (by rfl) Sg.g Sg.kp Sg.b .nil pass0 (pa_cons (pe_ix ix_str (pv 0) (pv 1) (fun _ _ => rfl)) pa_nil)))
      (pss_cons (ps_set (i := 3) scPe.nd rfl (.inl rfl) (pe_op op_add (pv 1) pe_int))
      (pss_cons (ps_while PassesOwn.never (PW.pt (pw_and (pt_cmpR op_ne (pv 2) pe_str (nomark _)) (pw_and (pt_cmpR op_lt (pv 3) (pe_callB call_len_str (by rfl) B.len PySem.boot_len (pa_cons (pv 0) pa_nil)) (nomark _)) (pw_and1 (pt_cmpR op_eq (pe_call Sg.G hr (by rfl) Sg.g Sg.kp Sg.b .nil pass0 (pa_cons (pe_ix ix_str (pv 0) (pv 3) (fun _ _ => rfl)) pa_nil)) (pv 2) (nomark _))))))
          (pss_one (ps_aug (i := 3) scPe.nd rfl (.inl rfl) pe_int ip_add)))
      (pss_one (ps_ret (pv 3))))), ?_⟩
    have hz : z.length ≤ sizeLine := Nat.le_trans hl (by decide)
    refine ⟨_, rfl, _, rfl, z, _, c, rfl, rfl, hz, atI_nat (show z.cps.toList[i]? = some c from hc), c, rfl, ?_⟩
    refine ⟨_, rfl, _, _, rfl, rfl, ?_⟩
    have lz := cL_len z
    have il : i < z.length := by
      rw [← lz]
      exact (List.getElem?_eq_some_iff.mp hc).1
    have hrl := run_le (grp c) ((cL z).drop (i + 1))
    rw [List.length_drop, lz] at hrl
    refine ⟨fun m σ' H' => ∃ j : Nat, σ' = [some (.str z), some (.int i), some (.str (gW (grp c))), some (.int ((i + 1 + j : Nat) : Int))] ∧ H = H' ∧ m = z.length - j ∧ j ≤ run (grp c) ((cL z).drop (i + 1)), ⟨_, 0, rfl, rfl, rfl, Nat.zero_le _⟩, ?_⟩
    rintro m σ' H' ⟨j, rfl, rfl, rfl, hj⟩
    have fin : run (grp c) ((cL z).drop (i + 1)) = j → Q (.int ((i + 1 + j : Nat) : Int)) H := fun e => by
      rw [e] at q
      exact q
    refine ⟨_, rfl, rfl, _, rfl, ite2 (fun e => ?_) (fun e => ?_)⟩
    rotate_left
    · have : gW (grp c) = ("mark" : Str) := Classical.byContradiction fun z0 => e (by rw [decide_eq_false (fun z1 => z0 (V.str.inj z1))]; rfl)
      have g0 := (gW_eq (grp_lt c) (by decide)).mp (this.trans (show ("mark" : Str) = gW 0 from rfl))
      refine iteF ⟨_, rfl, fin ?_⟩
      have e0 : run (grp c) ((cL z).drop (i + 1)) = 0 := by rw [g0]; rfl
      omega
    have gn : grp c ≠ 0 := fun z0 => by
      rw [z0] at e
      exact absurd e (by decide +kernel)
    have er : run (grp c) ((cL z).drop (i + 1)) = (((cL z).drop (i + 1)).takeWhile fun x => grp x == grp c).length := by
      unfold Tk.run
      rw [if_neg gn]
    refine ⟨_, rfl, _, rfl, z, rfl, hz, _, _, rfl, rfl, _, rfl, ite2 (fun e2 => ?_) (fun e2 => ?_)⟩
    rotate_left
    · refine iteF ⟨_, rfl, fin ?_⟩
      have : ¬ ((i + 1 + j : Nat) : Int) < z.length := by simpa using e2
      omega
    have lt : i + 1 + j < z.length := by
      have : ((i + 1 + j : Nat) : Int) < z.length := by simpa using e2
      omega
    obtain ⟨d, hd⟩ : ∃ d, (cL z)[i + 1 + j]? = some d := ⟨_, List.getElem?_eq_getElem (by rw [lz]; exact lt)⟩
    have hd2 : ((cL z).drop (i + 1))[j]? = some d := by
      rw [List.getElem?_drop]
      exact hd
    obtain ⟨s1, s2⟩ := run_step (g := grp c) _ j d (by rw [← er]; exact hj) hd2
    rw [← er] at s1 s2
    refine ⟨_, rfl, _, rfl, z, _, d, rfl, rfl, hz, atI_nat (show z.cps.toList[i + 1 + j]? = some d from hd), d, rfl, _, rfl, rfl, _, rfl, ite2 (fun e3 => ?_) (fun e3 => ?_)⟩
    · have : gW (grp d) = gW (grp c) := by simpa using e3
      have ge := (gW_eq (grp_lt d) (grp_lt c)).mp this
      refine ⟨fun σ' H' => σ' = [some (.str z), some (.int i), some (.str (gW (grp c))), some (.int ((i + 1 + (j + 1) : Nat) : Int))] ∧ H = H', fun σ' H' ⟨e1, e2⟩ => ⟨z.length - (j + 1), by omega, j + 1, e1, e2, rfl, s1 ge⟩, ?_⟩
      refine ⟨_, rfl, _, _, rfl, rfl, rfl, rfl⟩
    · have ge : grp d ≠ grp c := fun z0 => e3 (by rw [z0]; simp)
      exact ⟨_, rfl, fin (s2 ge).symm⟩
end
end Hl

set_option Elab.async false
set_option linter.all false
set_option maxRecDepth 100000
set_option maxHeartbeats 4000000
namespace Hl
open PySem PySem.Spec PyProof.Rows L2 Tk
structure Cn (mg : Str → Option Value) : Prop where
  le : ∃ t, mg "LETTERS" = some (.int 3 t)
  ns : ∃ t, mg "NAME_SIGNS" = some (.int 6 t)
  ru : ∃ t, mg "RULES" = some (.int 12 t)
  ev : ∃ t, mg "EVERY" = some (.int 6 t)
  af : ∃ t, mg "AFTER" = some (.int 12 t)
  ma : ∃ t, mg "MANY" = some (.int 4 t)
  ti : ∃ t, mg "TIMES" = some (.int 6 t)
theorem lc_str {x : Str} {g : TG} {tt : TT} {te : TE} {vs : List Nat} {σ : L2.St} {H1 : Hp} {D : Addr} {Qd : Hp → Prop} (Pv : Nat → Hp → Prop) (h0 : Pv 0 (upd H1 D (.lst [])))
    (hs : ∀ (i c : Nat) (H : Hp), x.cps[i]? = some c → Pv i H → g (.str ⟨#[c]⟩) (wipe σ vs) H fun σ2 H2 => wipe σ2 vs = wipe σ vs ∧ tt σ2 H2 fun b H3 =>
      if b = true then te σ2 H3 fun y H4 => ∃ acc, H4 D = some (.lst acc) ∧ acc.length < sizeLine ∧ Pv (i + 1) (upd H4 D (.lst (acc ++ [y]))) else Pv (i + 1) H3) (hd : ∀ H, Pv x.cps.size H → Qd H) :
    ∃ W : Nat → Nat → Hp → Prop, (∃ m, W 0 m (upd H1 D (.lst []))) ∧ ∀ i m H, W i m H →
      ((Its x).stop i H ∧ Qd H) ∨ ((Its x).go i H ∧ ∃ Nx : Hp → Prop, (∀ H', Nx H' → ∃ m', m' < m ∧ W (i + 1) m' H') ∧ ∀ v H', (Its x).yld i H v H' → g v (wipe σ vs) H' fun σ2 H2 => wipe σ2 vs = wipe σ vs ∧ tt σ2 H2 fun b H3 =>
        if b = true then te σ2 H3 fun y H4 => ∃ acc, H4 D = some (.lst acc) ∧ acc.length < sizeLine ∧ Nx (upd H4 D (.lst (acc ++ [y]))) else Nx H3) := by
  refine ⟨fun i m H => m = x.cps.size - i ∧ i ≤ x.cps.size ∧ Pv i H, ⟨x.cps.size, rfl, Nat.zero_le _, h0⟩, ?_⟩
  rintro i m H ⟨rfl, hi, p⟩
  by_cases hlt : i < x.cps.size
  · refine .inr ⟨hlt, Pv (i + 1), fun H' p' => ⟨x.cps.size - (i + 1), by omega, rfl, hlt, p'⟩, ?_⟩
    rintro v H' ⟨rfl, c, hc, rfl⟩
    exact hs i c _ hc p
  · have e : i = x.cps.size := by omega
    subst e
    exact .inl ⟨Nat.le_refl _, hd H p⟩
/-- the constants of machines -/
def azB (c : Nat) : Bool := decide (97 ≤ c) && decide (c ≤ 122)
theorem le1 (a b : Nat) : (!decide (([a] : List Nat) < [b])) = decide (b ≤ a) := by
  by_cases h : b ≤ a
  · rw [decide_eq_true h, decide_eq_false]
    · rfl
    · intro z'
      rw [List.cons_lt_cons_iff] at z'
      rcases z' with h' | ⟨_, h'⟩
      · omega
      · cases h'
  · rw [decide_eq_false h, decide_eq_true]
    · rfl
    · rw [List.cons_lt_cons_iff]
      exact .inl (by omega)
section
variable {P : Program} {w : World} {K : PySem.W.Frag} {mg : Str → Option Value} {base : Heap}
theorem scIs : FnScope ["text", "sign"] ["text"] (defScope sIsn) := ⟨rfl, rfl, rfl, by decide +kernel, rfl, by decide +kernel, by decide +kernel⟩
/-! is_name of any text -/
def spIsA : Sp := fun vs H Q _ => ∃ s : Str, vs = [.str s] ∧ s.length ≤ 1000000 ∧ ∀ H', Same H H' → Q (.bl (nameB s)) H'
theorem ok_isA {f : Addr} {fd : FuncData} {k : Nat} (F : Fun K "is_name" "is_name" sIsn f fd) (B : Bi mg) (C : Cn mg) : FnOk P w K mg base CX0 (k + 1) f fd ["text"] spIsA := by
  obtain ⟨tn, hn⟩ := C.ns
  refine F.ok scIs (fun vs H Q E h => ?_) (fun cdv A outer s H vs Q E hr h => ?_)
  · obtain ⟨s, rfl, _⟩ := h
    rfl
  · obtain ⟨z, rfl, l20, q⟩ := h
    have hzl : z.length ≤ sizeLine := Nat.le_trans l20 (by decide)
    refine ⟨_, pss_one (ps_ret (pe_and (pe_chain op_le op_le pe_int (pe_callB call_len_str (by rfl) B.len PySem.boot_len (pa_cons (pv 0) pa_nil)) (pe_glob (v := .int 6) rfl hn ⟨_, rfl⟩))
      (pe_one (pe_callB (cr_all rfl) (by rfl) B.all (by decide +kernel) (pa_cons (pe_lc (own := [("sign", 1)]) (g := gName 1) rfl scIs.nd (pi_str (pv 0)) (blkOk_by (own := [("sign", 1)]) (N := ["text", "sign"]) (sc := defScope sIsn) (by decide +kernel)) (fun _ _ _ _ _ => pg_name (i := 1) scIs.nd rfl (Or.inl rfl)) (fun _ _ _ _ _ => pts_nil)
        (fun _ _ _ _ _ => pe_chain op_le_str op_le_str pe_str (pv 1) pe_str)) pa_nil))))), ?_⟩
    have no : nameB z = false → Q (.bl false) H := fun e => by
      have := q H (Same.refl H)
      rw [e] at this
      exact this
    refine ⟨_, rfl, z, rfl, hzl, _, _, rfl, rfl, _, rfl, ?_⟩
    by_cases c1 : 1 ≤ z.length
    · have e1 : decide ((1 : Int) ≤ z.length) = true := decide_eq_true (by omega)
      refine iT e1 ⟨_, _, rfl, rfl, _, rfl, ?_⟩
      by_cases c2 : z.length ≤ 6
      · have e2 : decide ((z.length : Int) ≤ 6) = true := decide_eq_true (by omega)
        refine iT e2 ?_
        refine ⟨_, rfl, z, rfl, fun D nD => ?_⟩
        refine lc_str (x := z) (fun i H' => Same H H' ∧ H' D = some (.lst (((z.cps.toList.map azB).take i).map V.bl))) ⟨same_upd nD, upd_same⟩ ?_ ?_
        · rintro i c H' hc ⟨sm, hD⟩
          obtain ⟨hi, ec⟩ := Array.getElem?_eq_some_iff.mp hc
          have gi : (z.cps.toList.map azB)[i]? = some (azB c) := by rw [List.getElem?_map, Array.getElem?_toList, hc]; rfl
          have lt : ((((z.cps.toList.map azB).take i).map V.bl)).length < sizeLine := by
            rw [List.length_map, List.length_take]
            have : i < 6 := Nat.lt_of_lt_of_le hi c2
            exact small1000 (by omega)
          refine ⟨rfl, ?_⟩
          by_cases y0 : 97 ≤ c
          · have f1 : (!decide (([c] : List Nat) < [97])) = true := by rw [le1]; exact decide_eq_true y0
            refine ⟨_, rfl, _, _, rfl, rfl, _, rfl, iT f1 ⟨_, _, rfl, rfl, _, hD, lt, sm.put nD, ?_⟩⟩
            rw [upd_same, List.take_add_one, gi, List.map_append]
            show some (HO.lst (_ ++ [V.bl (!decide (([122] : List Nat) < [c]))])) = _
            rw [le1]
            have : azB c = decide (c ≤ 122) := by
              unfold azB
              rw [decide_eq_true y0]
              rfl
            rw [this]
            rfl
          · have f1 : (!decide (([c] : List Nat) < [97])) = false := by rw [le1]; exact decide_eq_false y0
            refine ⟨_, rfl, _, _, rfl, rfl, _, rfl, iF f1 ⟨_, hD, lt, sm.put nD, ?_⟩⟩
            rw [upd_same, List.take_add_one, gi, List.map_append]
            have : azB c = false := by
              unfold azB
              rw [decide_eq_false y0]
              rfl
            rw [this]
            rfl
        · rintro H' ⟨sm, hD⟩
          rw [List.take_of_length_le (by rw [List.length_map, Array.length_toList]; exact Nat.le_refl _)] at hD
          refine ⟨D, _, rfl, SqL.of hD, ?_⟩
          have := q H' sm
          have eq : nameB z = (z.cps.toList.map azB).all id := by
            unfold nameB
            rw [decide_eq_true c1, decide_eq_true c2, List.all_map]
            rfl
          rw [eq] at this
          exact this
      · have e2 : decide ((z.length : Int) ≤ 6) = false := decide_eq_false (by omega)
        refine iF e2 (no ?_)
        unfold nameB
        rw [decide_eq_false c2]
        simp
    · have e1 : decide ((1 : Int) ≤ z.length) = false := decide_eq_false (by omega)
      refine iF e1 ⟨_, rfl, iF rfl (no ?_)⟩
      unfold nameB
      rw [decide_eq_false c1]
      rfl

/-! pieces_of -/
def TokAt (H : Hp) (v : V) (t : Tok) : Prop := ∃ a, v = .ref a ∧ H a = some (.tup [.int (t.1 : Nat), .str t.2])
theorem TokAt.same {H H' : Hp} {v : V} {t : Tok} (s : Same H H') (h : TokAt H v t) : TokAt H' v t := by
  obtain ⟨a, e, h⟩ := h
  exact ⟨a, e, s _ _ h⟩
theorem TokAt.put {H : Hp} {v : V} {t : Tok} {D : Addr} {xs : List V} {o : HO} (h : TokAt H v t) (hD : H D = some (.lst xs)) : TokAt (upd H D o) v t := by
  obtain ⟨a, e, h⟩ := h
  refine ⟨a, e, ?_⟩
  rw [upd_ne fun z => by rw [z, hD] at h; cases h]
  exact h
def mkT (p : Nat × List Nat) : Tok := (p.1, mkS p.2)
theorem pcs_nil (n at' : Nat) : pcs n at' [] = [(at', [])] := by cases n <;> rfl
theorem pcs_cons (n at' c : Nat) (s : List Nat) : pcs (n + 1) at' (c :: s) = (if c = 32 then [] else [(at', c :: s.take (Tk.run (grp c) s))]) ++ pcs n (at' + 1 + Tk.run (grp c) s) (s.drop (Tk.run (grp c) s)) := by
  show (if c = 32 then _ else _ : List (Nat × List Nat)) = _
  split <;> rfl
def WPc (z : Str) (D : Addr) (H : Hp) (m : Nat) (σ' : L2.St) (H' : Hp) : Prop := ∃ (i n : Nat) (v3 : Option V) (vs : List V) (done : List Tok), σ' = [some (.str z), some (.ref D), some (.int (i : Nat)), v3] ∧ Same H H' ∧ H' D = some (.lst vs) ∧ Paired (TokAt H') vs done ∧ i ≤ z.length ∧ ((cL z).drop i).length ≤ n ∧ toks z = done ++ (pcs n i ((cL z).drop i)).map mkT ∧ done.length ≤ i ∧ m = z.length - i
def spPc : Sp := fun vs H Q _ => ∃ z : Str, vs = [.str z] ∧ z.length ≤ 1000000 ∧ ∀ (H' : Hp) (q : Addr) (ts : List V), Same H H' → H q = none → H' q = some (.lst ts) → Paired (TokAt H') ts (toks z) → (toks z).length ≤ 1000001 → Q (.ref q) H'
theorem scPc : FnScope ["text", "pieces", "at", "end"] ["text"] (defScope sPc) := ⟨rfl, rfl, rfl, by decide +kernel, rfl, by decide +kernel, by decide +kernel⟩
theorem ok_pc {f fE : Addr} {fd fdE : FuncData} {k : Nat} (F : Fun K "pieces_of" "pieces_of" sPc f fd) (B : Bi mg) (Pe : Has P w K mg base k "piece_end" ["text", "at"] spPe fE fdE) : FnOk P w K mg base CX0 (k + 1) f fd ["text"] spPc := by
  refine F.ok scPc (fun vs H Q E h => ?_) (fun cdv A outer s H vs Q E hr h => ?_)
  · obtain ⟨z, rfl, _⟩ := h
    rfl
  · obtain ⟨z, rfl, hl, q⟩ := h
    refine ⟨_, pss_cons (ps_set (i := 1) scPc.nd rfl (.inl rfl) (pe_lst pa_nil))
      (pss_cons (ps_set (i := 2) scPc.nd rfl (.inl rfl) pe_int)
      (pss_cons (ps_while PassesOwn.never (pt_cmpR op_lt (pv 2) (pe_callB call_len_str (by rfl) B.len PySem.boot_len (pa_cons (pv 0) pa_nil)) (nomark _))
          (pss_cons (ps_set (i := 3) scPc.nd rfl (.inl rfl) (pe_call Pe.G hr (by rfl) Pe.g Pe.kp Pe.b .nil pass0 (pa_cons (pv 0) (pa_cons (pv 2) pa_nil))))
          (Evl.pss_cut (ps_if (pt_cmpR op_ne (pe_ix ix_str (pv 0) (pv 2) (fun _ _ => rfl)) pe_str (nomark _))
              (pss_one (ps_expr (pe_bm PySem.F.plainAttrs_list PySem.F.slot_list_append PySem.F.type_list_append mt_append (pv 1) (pa_cons (pe_tup (pa_cons (pv 2) (pa_cons (pe_slice sl_str (pv 0) (po_some (pv 2)) (po_some (pv 3))) pa_nil))) pa_nil)))) pss_nil)
          (pss_one (ps_set (i := 2) scPc.nd rfl (.inl rfl) (pv 3))))))
      (pss_one (ps_ret (pe_op op_cat (pv 1) (pe_lst (pa_cons (pe_tup (pa_cons (pe_callB call_len_str (by rfl) B.len PySem.boot_len (pa_cons (pv 0) pa_nil)) (pa_cons pe_str pa_nil))) pa_nil))))))), ?_⟩
    have hz : z.length ≤ sizeLine := Nat.le_trans hl (by decide)
    have lz := cL_len z
    refine ⟨Nat.zero_le _, fun D nD => ?_⟩
    have sD := same_upd (o := .lst []) nD
    refine ⟨WPc z D H,
      ⟨_, 0, z.length, none, [], [], rfl, sD, upd_same, .nil, Nat.zero_le _, by rw [List.drop_zero, lz]; exact Nat.le_refl _, by rw [List.drop_zero]; rfl, Nat.le_refl _, rfl⟩, ?_⟩
    rintro m σ' H1 ⟨i, n, v3, vs, done, rfl, s1, hD, pr, il, hn, eq, dl, rfl⟩
    refine ⟨_, rfl, _, rfl, z, rfl, hz, _, _, rfl, rfl, _, rfl, ite2 (fun e => ?_) (fun e => ?_)⟩
    rotate_left
    · -- the end
      have ei : i = z.length := by
        have : ¬ ((i : Nat) : Int) < z.length := by simpa using e
        omega
      subst ei
      rw [show (cL z).drop z.length = [] by rw [← lz, List.drop_length], pcs_nil] at eq
      refine ⟨_, rfl, _, rfl, z, rfl, hz, (by show 2 ≤ sizeLine; decide), fun T nT => ?_⟩
      have sT := same_upd (o := .tup [.int z.length, .str ""]) nT
      refine ⟨(by show 1 ≤ sizeLine; decide), fun L nL => ?_⟩
      have sL := same_upd (o := .lst [.ref T]) nL
      have lv := pr.length
      refine ⟨D, L, _, _, rfl, rfl, sL _ _ (sT _ _ hD), upd_same, ?_, fun q' nq => ?_⟩
      · rw [lv]
        show done.length + 1 ≤ 16777216
        omega
      have sq := same_upd (o := .lst (vs ++ [V.ref T])) nq
      have sa := (sT.trans sL).trans sq
      refine q _ q' (vs ++ [.ref T]) (s1.trans sa) ((s1.trans (sT.trans sL)).free nq) upd_same ?_ ?_
      · rw [eq]
        exact paired_snoc (paired_mono (fun _ _ => TokAt.same sa) pr) ⟨T, rfl, (sL.trans sq) _ _ upd_same⟩
      · rw [eq, List.length_append]
        show done.length + 1 ≤ 1000001
        omega
    -- one more
    have lt : i < z.length := by
      have : ((i : Nat) : Int) < z.length := by simpa using e
      omega
    obtain ⟨c, hc⟩ : ∃ c, (cL z)[i]? = some c := ⟨_, List.getElem?_eq_getElem (by rw [lz]; exact lt)⟩
    have edr : (cL z).drop i = c :: (cL z).drop (i + 1) := by
      obtain ⟨h1, h2⟩ := List.getElem?_eq_some_iff.mp hc
      rw [← h2]
      exact List.drop_eq_getElem_cons h1
    cases n with
    | zero =>
      rw [edr] at hn
      cases hn
    | succ n =>
    rw [edr, pcs_cons, List.map_append] at eq
    rw [edr] at hn
    refine ⟨fun σ' H' => ∃ m', m' < z.length - i ∧ WPc z D H m' σ' H', fun _ _ h => h, ?_⟩
    generalize hg : Tk.run (grp c) ((cL z).drop (i + 1)) = g at *
    have hgl : g ≤ z.length - (i + 1) := by
      rw [← hg]
      have := run_le (grp c) ((cL z).drop (i + 1))
      rw [List.length_drop, lz] at this
      exact this
    refine ⟨_, rfl, _, rfl, z, i, c, rfl, hc, hl, ?_⟩
    rw [hg]
    refine ⟨fun σ' H' => ∃ (vs' : List V) (done' : List Tok), σ' = [some (.str z), some (.ref D), some (.int (i : Nat)), some (.int ((i + 1 + g : Nat) : Int))] ∧ Same H H' ∧ H' D = some (.lst vs') ∧ Paired (TokAt H') vs' done' ∧ toks z = done' ++ (pcs n (i + 1 + g) (((cL z).drop (i + 1)).drop g)).map mkT ∧ done'.length ≤ i + 1, ?_, ?_⟩
    · refine ⟨_, rfl, _, rfl, z, _, c, rfl, rfl, hz, atI_nat (show z.cps.toList[i]? = some c from hc), rfl, _, rfl, ite2 (fun e2 => ?_) (fun e2 => ?_)⟩
      · have c32 : c ≠ 32 := fun h => by
          rw [h] at e2
          exact absurd e2 (by decide +kernel)
        rw [if_neg c32] at eq
        refine ⟨_, rfl, .inl ⟨rfl, _, Or.inl (Or.inl hD)⟩, _, rfl, _, rfl, _, rfl, _, rfl, _, rfl, _, rfl, z, rfl, hz, (by show 2 ≤ sizeLine; decide), fun T nT => ?_⟩
        have sT := same_upd (o := .tup [.int (i : Nat), .str (cutS z (some (i : Nat)) (some ((i + 1 + g : Nat) : Int)))]) nT
        have lv := pr.length
        refine ⟨D, vs, _, rfl, rfl, sT _ _ hD, Nat.lt_of_le_of_lt (by rw [lv]; exact dl) (Nat.lt_of_lt_of_le lt (Nat.le_trans hl (by decide))), ?_⟩
        have nTD : T ≠ D := ne_of_fresh hD nT
        have ecut : cutS z (some (i : Nat)) (some ((i + 1 + g : Nat) : Int)) = mkS (c :: ((cL z).drop (i + 1)).take g) := by
          refine str_ext ?_
          unfold cutS
          show ((z.cps.toList.drop _).take _ : List Nat) = _
          rw [HT.sIx_nat, HT.sIx_nat, show min i z.length = i by omega, show min (i + 1 + g) z.length = i + 1 + g by omega, show i + 1 + g - i = g + 1 by omega]
          show ((cL z).drop i).take (g + 1) = _
          rw [edr]
          rfl
        refine ⟨vs ++ [.ref T], done ++ [(i, mkS (c :: ((cL z).drop (i + 1)).take g))], rfl, (s1.trans sT).put nD, upd_same, paired_snoc (paired_mono (fun _ _ h => (h.same sT).put (sT _ _ hD)) pr) ⟨T, rfl, ?_⟩, ?_, ?_⟩
        · rw [upd_ne nTD, upd_same, ecut]
        · rw [eq]
          simp [mkT]
        · rw [List.length_append]
          show done.length + 1 ≤ i + 1
          omega
      · have c32 : c = 32 := Classical.byContradiction fun h => e2 (by
          rw [decide_eq_false]
          · rfl
          · intro h'
            have := V.str.inj h'
            have h2 : (⟨#[c]⟩ : Str) = ⟨#[32]⟩ := this
            exact h (by simpa using h2))
        rw [if_pos c32] at eq
        exact ⟨vs, done, rfl, s1, hD, pr, by rw [eq]; rfl, by omega⟩
    rintro σ' H2 ⟨vs', done', rfl, s2, hD2, pr2, eq2, dl2⟩
    refine ⟨_, rfl, z.length - (i + 1 + g), by omega, i + 1 + g, n, _, vs', done', rfl, s2, hD2, pr2, by omega, ?_, ?_, by omega, rfl⟩
    · rw [List.length_drop, lz]
      rw [List.length_cons, List.length_drop, lz] at hn
      omega
    · rw [eq2, List.drop_drop]
end
end Hl

set_option Elab.async false
set_option linter.all false
set_option maxRecDepth 100000
set_option maxHeartbeats 4000000
namespace Hl
open PySem PySem.Spec PyProof.Rows L2 Tk
abbrev sRi : Stmt := inClass (topS 27) 0
abbrev sRc : Stmt := inClass (topS 27) 1
abbrev sRf : Stmt := inClass (topS 27) 2
abbrev sRo : Stmt := inClass (topS 27) 3
abbrev sRt : Stmt := inClass (topS 27) 4
abbrev sRn : Stmt := inClass (topS 27) 5
abbrev sRa : Stmt := inClass (topS 27) 6
/-! rows of pieces end with an empty one -/
def EndT : List Tok → Prop
  | [] => False
  | [t] => t.2 = ""
  | t :: u :: r => t.2 ≠ "" ∧ EndT (u :: r)
theorem EndT.some {ts : List Tok} (h : EndT ts) : ∃ t r, ts = t :: r := by
  cases ts with
  | nil => exact h.elim
  | cons t r => exact ⟨t, r, rfl⟩
theorem EndT.tail {ts : List Tok} (h : EndT ts) (n : hdW ts ≠ "") : EndT ts.tail := by
  match ts, h, n with
  | [t], h, n => exact absurd h n
  | t :: u :: r, h, n => exact h.2
theorem EndT.cons {t : Tok} {ts : List Tok} (h : EndT ts) (n : t.2 ≠ "") : EndT (t :: ts) := by
  cases ts with
  | nil => exact h.elim
  | cons u r => exact ⟨n, h⟩
theorem mkS_ne {c : Nat} {s : List Nat} : mkS (c :: s) ≠ "" := fun z => by
  have e : (mkS (c :: s)).cps.toList = ("" : Str).cps.toList := congrArg (fun x : Str => x.cps.toList) z
  have e2 : ("" : Str).cps.toList = [] := by decide +kernel
  rw [e2] at e
  cases e
theorem pcs_end : ∀ (n at' : Nat) (s : List Nat), EndT ((pcs n at' s).map mkT)
  | 0, at', s => (show mkS [] = "" from by decide +kernel)
  | n + 1, at', [] => (show mkS [] = "" from by decide +kernel)
  | n + 1, at', c :: s => by
    rw [pcs_cons, List.map_append]
    have ih := pcs_end n (at' + 1 + Tk.run (grp c) s) (s.drop (Tk.run (grp c) s))
    split
    · exact ih
    · exact EndT.cons ih mkS_ne
theorem toks_end (z : Str) : EndT (toks z) := pcs_end _ _ _
theorem pcs_small : ∀ (n at' : Nat) (s : List Nat), ∀ p ∈ pcs n at' s, p.1 ≤ at' + s.length ∧ p.2.length ≤ s.length
  | 0, at', s, p, h => by
    cases List.mem_singleton.mp h
    exact ⟨Nat.le_add_right _ _, Nat.zero_le _⟩
  | n + 1, at', [], p, h => by
    cases List.mem_singleton.mp h
    exact ⟨Nat.le_add_right _ _, Nat.zero_le _⟩
  | n + 1, at', c :: s, p, h => by
    rw [pcs_cons] at h
    have hr := run_le (grp c) s
    rcases List.mem_append.mp h with h | h
    · split at h
      · cases h
      · cases List.mem_singleton.mp h
        refine ⟨Nat.le_add_right _ _, ?_⟩
        rw [List.length_cons, List.length_take, List.length_cons]
        omega
    · obtain ⟨h1, h2⟩ := pcs_small n _ _ p h
      rw [List.length_drop] at h1 h2
      rw [List.length_cons]
      omega
theorem toks_small {z : Str} (hz : z.length ≤ 1000000) : ∀ t ∈ toks z, t.1 ≤ 1000000 ∧ t.2.length ≤ 1000000 := fun t ht => by
  obtain ⟨p, hp, rfl⟩ := List.mem_map.mp ht
  obtain ⟨h1, h2⟩ := pcs_small _ _ _ p hp
  have := cL_len z
  have e : z.cps.toList.length = z.length := this
  rw [e] at h1 h2
  have e2 : (mkS p.2).length = p.2.length := by simp [mkS, Str.length]
  refine ⟨by dsimp only; omega, ?_⟩
  show (mkS p.2).length ≤ _
  omega
/-! what does not change but for instances -/
def Ni (o : HO) : Prop := ∀ C dx fs, o ≠ .ins C dx fs
theorem ni_tup {xs : List V} : Ni (.tup xs) := fun _ _ _ h => by cases h
theorem ni_lst {xs : List V} : Ni (.lst xs) := fun _ _ _ h => by cases h
theorem ni_frz {o : Obj} {u : HO} : Ni (.frz o u) := fun _ _ _ h => by cases h
structure Ki (H H' : Hp) : Prop where
  keep : ∀ b o, Ni o → H b = some o → H' b = some o
  free : ∀ b, H' b = none → H b = none
  pcs : ∀ b C dx fs, H b = some (.ins C dx fs) → ∃ fs', H' b = some (.ins C dx fs') ∧ fs'.lookup ("pieces" : Str) = fs.lookup ("pieces" : Str)
theorem Ki.refl (H : Hp) : Ki H H := ⟨fun _ _ _ h => h, fun _ h => h, fun _ _ _ fs h => ⟨fs, h, rfl⟩⟩
theorem Ki.trans {H H1 H2 : Hp} (a : Ki H H1) (b : Ki H1 H2) : Ki H H2 := ⟨fun x o n h => b.keep x o n (a.keep x o n h), fun x h => a.free x (b.free x h), fun x C dx fs h => by
  obtain ⟨f1, h1, e1⟩ := a.pcs x C dx fs h
  obtain ⟨f2, h2, e2⟩ := b.pcs x C dx f1 h1
  exact ⟨f2, h2, e2.trans e1⟩⟩
theorem Ki.of {H H1 : Hp} (a : Same H H1) : Ki H H1 := ⟨fun x o _ h => a x o h, fun x h => a.free h, fun x _ _ fs h => ⟨fs, a _ _ h, rfl⟩⟩
theorem Ki.ins {H : Hp} {p C dx : Addr} {fs fs' : List (Str × V)} (h : H p = some (.ins C dx fs)) (e : fs'.lookup ("pieces" : Str) = fs.lookup ("pieces" : Str)) : Ki H (upd H p (.ins C dx fs')) := ⟨fun b o n e => by
  rw [upd_ne fun z => by rw [z, h] at e; exact n _ _ _ (Option.some.inj e).symm]
  exact e, fun b e => by
  by_cases z : b = p
  · rw [z, upd_same] at e
    cases e
  · rw [upd_ne z] at e
    exact e, fun b C' dx' fs2 h2 => by
  by_cases z : b = p
  · subst z
    rw [h] at h2
    cases h2
    exact ⟨fs', upd_same, e⟩
  · exact ⟨fs2, by rw [upd_ne z]; exact h2, rfl⟩⟩
theorem Ki.put {H H' : Hp} {D : Addr} {o : HO} (k : Ki H H') (n : H D = none) : Ki H (upd H' D o) := ⟨fun b x nx h => by rw [upd_ne (ne_of_none h n)]; exact k.keep b x nx h, fun b h => by
  by_cases e : b = D
  · rw [e]
    exact n
  · rw [upd_ne e] at h
    exact k.free b h, fun b C dx fs h => by
  obtain ⟨f1, h1, e1⟩ := k.pcs b C dx fs h
  exact ⟨f1, by rw [upd_ne (ne_of_none h n)]; exact h1, e1⟩⟩
section
variable {H H' : Hp}
theorem TokAt.ki {v : V} {t : Tok} (k : Ki H H') (h : TokAt H v t) : TokAt H' v t := by
  obtain ⟨a, e, h⟩ := h
  exact ⟨a, e, k.keep _ _ ni_tup h⟩
theorem PairAt.ki {v : V} {p : Str × Int} (k : Ki H H') (h : PairAt H v p) : PairAt H' v p := by
  obtain ⟨a, e, h⟩ := h
  exact ⟨a, e, k.keep _ _ ni_tup h⟩
theorem PairsAt.ki {t : Addr} {p : List (Str × Int)} (k : Ki H H') (h : PairsAt H t p) : PairsAt H' t p := by
  obtain ⟨vs, ⟨o, d, e⟩, h⟩ := h
  exact ⟨vs, ⟨o, d, k.keep _ _ ni_frz e⟩, paired_mono (fun _ _ => PairAt.ki k) h⟩
theorem RuleAt.ki {v : V} {r : Rl} (k : Ki H H') (h : RuleAt H v r) : RuleAt H' v r := by
  obtain ⟨t, wt, gt, e, h, h1, h2⟩ := h
  exact ⟨t, wt, gt, e, k.keep _ _ ni_tup h, h1.ki k, h2.ki k⟩
end
theorem put_len (f : Str) (v : V) : ∀ fs : List (Str × V), (putF f v fs).length ≤ fs.length + 1
  | [] => Nat.le_refl _
  | (g, u) :: fs => by
    have := put_len f v fs
    unfold putF
    split
    · simp
    · simp only [List.length_cons]
      omega
/-- what is known of the class -/
structure Rc (K : PySem.W.Frag) (C : Addr) : Prop where
  cl : Cls K C
  nP : NoAttr K C "pieces"
  nT : NoAttr K C "taken"
def rf (q : Addr) (k : Nat) : List (Str × V) := putF "taken" (.int (k : Nat)) (putF "pieces" (.ref q) [])
theorem rf_p (q : Addr) (k : Nat) : (rf q k).lookup ("pieces" : Str) = some (.ref q) := by
  unfold rf
  rw [lookup_putF, if_neg (by decide +kernel), lookup_putF, if_pos rfl]
theorem rf_t (q : Addr) (k : Nat) : (rf q k).lookup ("taken" : Str) = some (.int (k : Nat)) := by
  unfold rf
  rw [lookup_putF, if_pos rfl]
theorem rf_no (q : Addr) (k : Nat) {f : Str} (h1 : f ≠ "taken") (h2 : f ≠ "pieces") : (rf q k).lookup f = none := by
  unfold rf
  rw [lookup_putF, if_neg h1, lookup_putF, if_neg h2]
  rfl
theorem rf_len (q : Addr) (k : Nat) : (rf q k).length < 1000 := by
  unfold rf
  have h1 := put_len "taken" (.int (k : Nat)) (putF "pieces" (.ref q) [])
  have h2 := put_len "pieces" (.ref q) []
  have h3 : ([] : List (Str × V)).length = 0 := rfl
  omega
theorem rf_put (q : Addr) (k j : Nat) : putF "taken" (.int (j : Nat)) (rf q k) = rf q j := by
  unfold rf
  have e : ("pieces" : Str) ≠ "taken" := by decide +kernel
  show putF "taken" _ (putF "taken" _ [(("pieces" : Str), V.ref q)]) = putF "taken" _ [(("pieces" : Str), V.ref q)]
  have st : ∀ v : V, putF "taken" v [(("pieces" : Str), V.ref q)] = [(("pieces" : Str), V.ref q), (("taken" : Str), v)] := fun v => by
    show (if ("pieces" : Str) = "taken" then _ else _) = _
    rw [if_neg e]
    rfl
  rw [st, st]
  show (if ("pieces" : Str) = "taken" then _ else _) = _
  rw [if_neg e]
  show _ :: (if ("taken" : Str) = "taken" then _ else _) = _
  rw [if_pos rfl]
/-- a reader that stands ahead of these pieces -/
structure RdrAt (C : Addr) (H : Hp) (p : Addr) (ts : List Tok) : Prop where
  ex : ∃ (dx q : Addr) (vs : List V) (all : List Tok) (k : Nat), H p = some (.ins C dx (rf q k)) ∧ H q = some (.lst vs) ∧ Paired (TokAt H) vs all ∧ all.drop k = ts ∧ EndT ts ∧ all.length ≤ 1000001 ∧ ∀ t ∈ all, t.1 ≤ 1000000 ∧ t.2.length ≤ 1000000
theorem RdrAt.same {C p : Addr} {H H' : Hp} {ts : List Tok} (s : Same H H') (h : RdrAt C H p ts) : RdrAt C H' p ts := by
  obtain ⟨dx, q, vs, all, k, h1, h2, h3, r⟩ := h
  exact ⟨dx, q, vs, all, k, s _ _ h1, s _ _ h2, paired_mono (fun _ _ => TokAt.same s) h3, r⟩
theorem RdrAt.put {C p D : Addr} {H : Hp} {ts : List Tok} {xs : List V} {o : HO} (h : RdrAt C H p ts) (hD : H D = some (.lst xs)) (hq : ∀ dx q k, H p = some (.ins C dx (rf q k)) → q ≠ D) : RdrAt C (upd H D o) p ts := by
  obtain ⟨dx, q, vs, all, k, h1, h2, h3, r⟩ := h
  refine ⟨dx, q, vs, all, k, ?_, ?_, paired_mono (fun _ _ h => h.put hD) h3, r⟩
  · rw [upd_ne fun z => by rw [z, hD] at h1; cases h1]
    exact h1
  · rw [upd_ne (hq _ _ _ h1)]
    exact h2
theorem RdrAt.qne {C p D : Addr} {H H' : Hp} {ts : List Tok} (h : RdrAt C H p ts) (k : Ki H H') (nD : H D = none) : ∀ dx q j, H' p = some (.ins C dx (rf q j)) → q ≠ D := fun dx q j e z => by
  obtain ⟨dx0, q0, vs, all, j0, h1, h2, _⟩ := h
  obtain ⟨fs, f1, f2⟩ := k.pcs _ _ _ _ h1
  rw [e] at f1
  cases f1
  rw [rf_p, rf_p] at f2
  cases f2
  rw [z, nD] at h2
  cases h2
theorem RdrAt.end_ {C p : Addr} {H : Hp} {ts : List Tok} (h : RdrAt C H p ts) : EndT ts := let ⟨_, _, _, _, _, _, _, _, _, e, _⟩ := h.ex; e
theorem RdrAt.hd {C p : Addr} {H : Hp} {ts : List Tok} (h : RdrAt C H p ts) : hdA ts ≤ 1000000 ∧ (hdW ts).length ≤ 1000000 := by
  obtain ⟨dx, q, vs, all, k, h1, h2, h3, h4, h5, h6, h7⟩ := h
  obtain ⟨t, r, e⟩ := h5.some
  have : t ∈ all := List.mem_of_mem_drop (i := k) (by rw [h4, e]; exact List.mem_cons_self)
  rw [e]
  exact h7 t this
/-- a defs' promise as a method -/
structure Mth (P : Program) (w : World) (K : PySem.W.Frag) (mg : Str → Option Value) (base : Heap) (CX : CXT) (C : Addr) (k : Nat) (m : Str) (ps : List Str) (sp : Sp) (f : Addr) (fd : FuncData) : Prop where
  G : FnOk P w K mg base CX k f fd ps sp
  m : Meth K C m f
  b : Binds K fd ps []
section
variable {P : Program} {w : World} {K : PySem.W.Frag} {mg : Str → Option Value} {base : Heap}
/-! Reader.coming -/
def spCm (C : Addr) : Sp := fun vs H Q _ => ∃ (p : Addr) (ts : List Tok), vs = [.ref p] ∧ RdrAt C H p ts ∧ Q (.str (hdW ts)) H
theorem scRc : FnScope ["self"] ["self"] (defScope sRc) := ⟨rfl, rfl, rfl, by decide +kernel, rfl, by decide +kernel, by decide +kernel⟩
theorem ok_cm {f C : Addr} {fd : FuncData} {k : Nat} (F : Fun K "coming" "Reader.coming" sRc f fd) (M : Rc K C) : FnOk P w K mg base CX0 (k + 1) f fd ["self"] (spCm C) := by
  refine F.ok scRc (fun vs H Q E h => ?_) (fun cdv A outer s H vs Q E hr h => ?_)
  · obtain ⟨p, ts, rfl, _⟩ := h
    rfl
  · obtain ⟨p, ts, rfl, ⟨dx, q, vs, all, j, hp, hq, pr, dr, en, _⟩, Qk⟩ := h
    refine ⟨_, pss_one (ps_ret (pe_ix ix_tup (pe_ix ix_list (pe_fld (pv 0) rfl) (pe_fld (pv 0) rfl) (fun _ _ => rfl)) pe_int (fun _ _ => rfl))), ?_⟩
    obtain ⟨t, r, e⟩ := en.some
    have ht : all[j]? = some t := by
      have h0 : (all.drop j)[0]? = some t := by rw [dr, e]; rfl
      rw [List.getElem?_drop] at h0
      exact h0
    obtain ⟨v, hv, a, rfl, ha⟩ := paired_get2 pr j t ht
    rw [e] at Qk
    exact ⟨_, rfl, p, C, dx, _, _, rfl, hp, M.cl, M.nP, rf_p _ _, _, rfl, p, C, dx, _, _, rfl, hp, M.cl, M.nT, rf_t _ _, q, vs, _, _, rfl, rfl, SqL.of hq, atI_nat (j := j) hv, a, _, 1, _, rfl, rfl, SqT.of ha, atI_nat (j := 1) rfl, Qk⟩
/-! Reader.refuse -/
def spRf (C BT : Addr) : Sp := fun vs H Q E => ∃ (p : Addr) (ts : List Tok), vs = [.ref p] ∧ RdrAt C H p ts ∧ ∀ (H' : Hp) (d : Addr), Same H H' → H' d = some (.xd (Hw.errF "BadText" ["at"] [.int (hdA ts : Nat)])) → E (.ref BT) (some d) H'
theorem scRf : FnScope ["self"] ["self"] (defScope sRf) := ⟨rfl, rfl, rfl, by decide +kernel, rfl, by decide +kernel, by decide +kernel⟩
theorem ok_rf {f C BT fI : Addr} {fd fdI : FuncData} {k : Nat} (F : Fun K "refuse" "Reader.refuse" sRf f fd) (M : Rc K C) (Er : Hw.Er P w K mg base k "ValueError.__new__" Hw.tlV "BadText" ["at"] BT fI fdI) : FnOk P w K mg base (L2.CX P w) (k + 2) f fd ["self"] (spRf C BT) := by
  refine F.okX scRf (fun vs H Q E h => ?_) (fun cdv A outer s H vs Q E hr h => ?_)
  · obtain ⟨p, ts, rfl, _⟩ := h
    rfl
  · obtain ⟨p, ts, rfl, rd, Ek⟩ := h
    have sm := rd.hd.1
    obtain ⟨dx, q, vs, all, j, hp, hq, pr, dr, en, _⟩ := rd
    refine ⟨_, pss_one (ps_raise rfl (takes_of rfl rfl rfl rfl) (Hw.pmk_er Hw.bseV Er hr (by rfl) (pa_cons (pe_ix ix_tup (pe_ix ix_list (pe_fld (pv 0) rfl) (pe_fld (pv 0) rfl) (fun _ _ => rfl)) pe_int (fun _ _ => rfl)) pa_nil))), ?_⟩
    obtain ⟨t, r, e⟩ := en.some
    have ht : all[j]? = some t := by
      have h0 : (all.drop j)[0]? = some t := by rw [dr, e]; rfl
      rw [List.getElem?_drop] at h0
      exact h0
    obtain ⟨v, hv, a, rfl, ha⟩ := paired_get2 pr j t ht
    rw [e] at Ek sm
    refine ⟨_, rfl, p, C, dx, _, _, rfl, hp, M.cl, M.nP, rf_p _ _, _, rfl, p, C, dx, _, _, rfl, hp, M.cl, M.nT, rf_t _ _, q, vs, _, _, rfl, rfl, SqL.of hq, atI_nat (j := j) hv, a, _, 0, _, rfl, rfl, SqT.of ha, atI_nat (j := 0) rfl, ?_⟩
    refine Er.fin rfl (by decide) (fun v hv => ?_) fun d nd => Ek _ d (same_upd nd) upd_same
    cases List.mem_singleton.mp hv
    exact ⟨_, .int _ (by have : t.1 ≤ 1000000 := sm; exact Nat.lt_of_le_of_lt this (by decide))⟩
end
end Hl

set_option Elab.async false
set_option linter.all false
set_option maxRecDepth 100000
set_option maxHeartbeats 4000000
namespace Hl
open PySem PySem.Spec PyProof.Rows L2 Tk
theorem lg1920 {n : Int} (h : n.natAbs < 2 ^ 11) : n.natAbs.log2 < 1920 := Nat.lt_of_lt_of_le (PySem.Flt.log2_lt_of (by decide) h) (by decide)
/-- what a def that reads gives or refuses -/
def FinR (C BT : Addr) {α : Type} (val : Hp → V → α → Prop) (H : Hp) (Q : VK) (E : XK) (p : Addr) (r : Rd α) : Prop :=
  (∀ x ts', r = .ok (x, ts') → ∀ H' v, Ki H H' → RdrAt C H' p ts' → val H' v x → Q v H') ∧
  (∀ e, r = .error e → ∀ (H' : Hp) (d : Addr), Ki H H' → H' d = some (.xd (Hw.errF "BadText" ["at"] [.int (e : Nat)])) → E (.ref BT) (some d) H')
theorem RdrAt.ins {C p : Addr} {H : Hp} {ts : List Tok} (h : RdrAt C H p ts) : ∃ dx q j, H p = some (.ins C dx (rf q j)) := by
  obtain ⟨dx, q, vs, all, j, h1, _⟩ := h
  exact ⟨dx, q, j, h1⟩
theorem aug_fin {K : PySem.W.Frag} {C p : Addr} {H : Hp} {ts : List Tok} {D : Ends} {σ : L2.St} (M : Rc K C) (rd : RdrAt C H p ts) (hn : hdW ts ≠ "") (h0 : σ[0]? = some (some (.ref p))) (q : ∀ H', Ki H H' → RdrAt C H' p ts.tail → D.nx σ H') : sFldAug K (tVar 0) (tC (.int 1)) rAdd "taken" D σ H := by
  obtain ⟨dx, qa, vs, all, j, hp, hq, pr, dr, en, sz, sm⟩ := rd
  refine ⟨_, h0, p, C, dx, _, _, rfl, hp, M.cl, M.nT, rf_t _ _, _, _, rfl, rfl, dx, _, hp, rf_len _ _, ?_⟩
  have e : putF "taken" (.int ((j : Nat) + 1)) (rf qa j) = rf qa (j + 1) := rf_put qa j (j + 1)
  rw [e]
  have nqp : qa ≠ p := fun z => by
    rw [z, hp] at hq
    cases hq
  have ki := Ki.ins (fs' := rf qa (j + 1)) hp ((rf_p _ _).trans (rf_p _ _).symm)
  refine q _ ki ⟨dx, qa, vs, all, j + 1, upd_same, by rw [upd_ne nqp]; exact hq, paired_mono (fun _ _ h => h.ki ki) pr, ?_, en.tail hn, sz, sm⟩
  rw [← dr, List.tail_drop]
theorem num_eq {lo hi : Nat} {ts : List Tok} (h : EndT ts) : rdNum lo hi ts = if hdW ts ∈ numL lo hi then .ok ((PySem.intText? (hdW ts)).getD 0, ts.tail) else .error (hdA ts) := by
  obtain ⟨⟨a, w⟩, r, rfl⟩ := h.some
  rfl
theorem one_eq {x : Str} {ts : List Tok} (h : EndT ts) : rdOne x ts = if hdW ts = x then .ok ((), ts.tail) else .error (hdA ts) := by
  obtain ⟨⟨a, w⟩, r, rfl⟩ := h.some
  rfl
theorem name_eq {last : Str} {ts : List Tok} (h : EndT ts) : rdName last ts = if nameOk last (hdW ts) = true then .ok (hdW ts, ts.tail) else .error (hdA ts) := by
  obtain ⟨⟨a, w⟩, r, rfl⟩ := h.some
  rfl
theorem numL_at {lo hi : Nat} {w : Str} (h : w ∈ numL lo hi) (h12 : hi ≤ 12) : ∃ k : Int, 0 ≤ k ∧ k ≤ 12 ∧ w = nt k := by
  obtain ⟨i, hi', rfl⟩ := List.mem_map.mp h
  have := List.mem_range.mp hi'
  exact ⟨_, by omega, by omega, rfl⟩
theorem numL_ne {lo hi : Nat} (h12 : hi ≤ 12) : ("" : Str) ∉ numL lo hi := fun h => by
  obtain ⟨k, k0, k12, e⟩ := numL_at h h12
  have := (num_one k0 k12).2.1
  rw [← e] at this
  exact this (by decide +kernel)
theorem nameOk_ne {last w : Str} (h : nameOk last w = true) : w ≠ "" := fun z => by
  subst z
  unfold nameOk nameB at h
  rw [show (("" : Str).length) = 0 from rfl] at h
  cases h
section
variable {P : Program} {w : World} {K : PySem.W.Frag} {mg : Str → Option Value} {base : Heap}
/-! Reader.one_of -/
def spRo (C BT : Addr) : Sp := fun vs H Q E => ∃ (p a : Addr) (ts : List Tok) (ws : List Str), vs = [.ref p, .ref a] ∧ RdrAt C H p ts ∧ H a = some (.lst (ws.map V.str)) ∧ ("" : Str) ∉ ws ∧
  (hdW ts ∈ ws → ∀ H', Ki H H' → RdrAt C H' p ts.tail → Q (.str (hdW ts)) H') ∧
  (hdW ts ∉ ws → ∀ (H' : Hp) (d : Addr), Ki H H' → H' d = some (.xd (Hw.errF "BadText" ["at"] [.int (hdA ts : Nat)])) → E (.ref BT) (some d) H')
theorem scRo : FnScope ["self", "allowed", "piece"] ["self", "allowed"] (defScope sRo) := ⟨rfl, rfl, rfl, by decide +kernel, rfl, by decide +kernel, by decide +kernel⟩
theorem ok_ro {f fC fR C BT : Addr} {fd fdC fdR : FuncData} {k : Nat} (F : Fun K "one_of" "Reader.one_of" sRo f fd) (M : Rc K C) (Cm : Mth P w K mg base CX0 C k "coming" ["self"] (spCm C) fC fdC) (Rf : Mth P w K mg base (L2.CX P w) C k "refuse" ["self"] (spRf C BT) fR fdR) :
    FnOk P w K mg base (L2.CX P w) (k + 1) f fd ["self", "allowed"] (spRo C BT) := by
  refine F.okX scRo (fun vs H Q E h => ?_) (fun cdv A outer s H vs Q E hr h => ?_)
  · obtain ⟨p, a, ts, ws, rfl, _⟩ := h
    rfl
  · obtain ⟨p, a, ts, ws, rfl, rd, ha, ne, Qk, Ek⟩ := h
    refine ⟨_, pss_cons (ps_set (i := 2) scRo.nd rfl (.inl rfl) (pe_meth0 (pv 0) M.cl Cm.m Cm.G hr Cm.b .nil pass0))
      (pss_cons (ps_if (pt_cmpR op_notIn_seq (pv 2) (pv 1) (by rfl)) (pss_one (ps_expr (pe_meth0 (pv 0) M.cl Rf.m Rf.G hr Rf.b .nil (passes_call (takes_of rfl rfl rfl rfl) (fun _ _ _ _ h => h))))) pss_nil)
      (pss_cons (ps_fldaug (pv 0) pe_int in_add)
      (pss_one (ps_ret (pv 2))))), ?_⟩
    obtain ⟨dx, q, j, hp⟩ := rd.ins
    refine ⟨_, rfl, p, dx, _, rfl, hp, rf_no _ _ (by decide +kernel) (by decide +kernel), p, ts, rfl, rd, ?_⟩
    refine ⟨_, rfl, _, rfl, a, _, rfl, .inl (SqL.of ha), rfl, strs_flat _, _, rfl, ?_⟩
    rw [if_pos rfl, inV_mem]
    refine ite2 (fun e => ?_) (fun e => ?_)
    · have no : hdW ts ∉ ws := by simpa using e
      exact ⟨_, rfl, p, dx, _, rfl, hp, rf_no _ _ (by decide +kernel) (by decide +kernel), p, ts, rfl, rd, fun H' d sm hd => Ek no H' d (Ki.of sm) hd⟩
    · have yes : hdW ts ∈ ws := by simpa using e
      exact aug_fin M rd (fun z => ne (z ▸ yes)) rfl fun H' ki rd' => ⟨_, rfl, Qk yes H' ki rd'⟩
/-! Reader.takes -/
def spRt (C : Addr) : Sp := fun vs H Q _ => ∃ (p : Addr) (ts : List Tok) (x : Str), vs = [.ref p, .str x] ∧ RdrAt C H p ts ∧ x ≠ "" ∧ (hdW ts ≠ x → Q (.bl false) H) ∧ (hdW ts = x → ∀ H', Ki H H' → RdrAt C H' p ts.tail → Q (.bl true) H')
theorem scRt : FnScope ["self", "piece"] ["self", "piece"] (defScope sRt) := ⟨rfl, rfl, rfl, by decide +kernel, rfl, by decide +kernel, by decide +kernel⟩
theorem ok_rt {f fC C : Addr} {fd fdC : FuncData} {k : Nat} (F : Fun K "takes" "Reader.takes" sRt f fd) (M : Rc K C) (Cm : Mth P w K mg base CX0 C k "coming" ["self"] (spCm C) fC fdC) : FnOk P w K mg base CX0 (k + 1) f fd ["self", "piece"] (spRt C) := by
  refine F.ok scRt (fun vs H Q E h => ?_) (fun cdv A outer s H vs Q E hr h => ?_)
  · obtain ⟨p, ts, x, rfl, _⟩ := h
    rfl
  · obtain ⟨p, ts, x, rfl, rd, ne, Qn, Qy⟩ := h
    refine ⟨_, pss_cons (ps_if (pt_cmpR op_ne (pe_meth0 (pv 0) M.cl Cm.m Cm.G hr Cm.b .nil pass0) (pv 1) (nomark _)) (pss_one (ps_ret pe_bl)) pss_nil)
      (pss_cons (ps_fldaug (pv 0) pe_int in_add)
      (pss_one (ps_ret pe_bl))), ?_⟩
    obtain ⟨dx, q, j, hp⟩ := rd.ins
    refine ⟨_, rfl, p, dx, _, rfl, hp, rf_no _ _ (by decide +kernel) (by decide +kernel), p, ts, rfl, rd, ?_⟩
    refine ⟨_, rfl, rfl, _, rfl, ite2 (fun e => ?_) (fun e => ?_)⟩
    · exact Qn fun z => by
        rw [z] at e
        simp at e
    · have yes : hdW ts = x := by simpa using e
      exact aug_fin M rd (fun z => ne (by rw [← yes]; exact z)) rfl fun H' ki rd' => Qy yes H' ki rd'
/-! Reader.number -/
def spRn (C BT : Addr) : Sp := fun vs H Q E => ∃ (p : Addr) (ts : List Tok) (lo hi : Nat), vs = [.ref p, .int (lo : Nat), .int (hi : Nat)] ∧ RdrAt C H p ts ∧ lo ≤ hi ∧ hi ≤ 12 ∧ FinR C BT (fun _ v n => v = .int n) H Q E p (rdNum lo hi ts)
abbrev nmRn : List Str := ["self", "low", "high", "number"]
theorem scRn : FnScope nmRn ["self", "low", "high"] (defScope sRn) := ⟨rfl, rfl, rfl, by decide +kernel, rfl, by decide +kernel, by decide +kernel⟩
theorem ok_rn {f fO C BT : Addr} {fd fdO : FuncData} {k : Nat} (F : Fun K "number" "Reader.number" sRn f fd) (M : Rc K C) (B : Bi mg) (Ro : Mth P w K mg base (L2.CX P w) C k "one_of" ["self", "allowed"] (spRo C BT) fO fdO) :
    FnOk P w K mg base (L2.CX P w) (k + 1) f fd ["self", "low", "high"] (spRn C BT) := by
  refine F.okX scRn (fun vs H Q E h => ?_) (fun cdv A outer s H vs Q E hr h => ?_)
  · obtain ⟨p, ts, lo, hi, rfl, _⟩ := h
    rfl
  · obtain ⟨p, ts, lo, hi, rfl, rd, lh, h12, Qk, Ek⟩ := h
    refine ⟨_, pss_one (ps_ret (pe_callTy call_int_str (by rfl) B.int (by decide +kernel) (pa_cons (pe_meth (pv 0) M.cl Ro.m Ro.G hr Ro.b .nil (passes_call (takes_of rfl rfl rfl rfl) (fun _ _ _ _ h => h)) (pa_cons
      (pe_lc (own := [("number", 3)]) (g := gName 3) (tt := tYes) rfl scRn.nd (pi_range2 (by rfl) B.rng (pa_cons (pv 1) (pa_cons (pe_op op_add (pv 2) pe_int) pa_nil))) (blkOk_by (own := [("number", 3)]) (N := nmRn) (sc := defScope sRn) (by decide +kernel)) (fun _ _ _ _ _ => pg_name (i := 3) scRn.nd rfl (Or.inl rfl)) (fun _ _ _ _ _ => pts_nil)
        (fun _ _ _ _ _ => pe_callTy call_str_int (by rfl) B.str (by decide +kernel) (pa_cons (pv 3) pa_nil))) pa_nil)) pa_nil))), ?_⟩
    rw [num_eq rd.end_] at Qk Ek
    obtain ⟨dx, q, j, hp⟩ := rd.ins
    refine ⟨_, rfl, p, dx, _, rfl, hp, rf_no _ _ (by decide +kernel) (by decide +kernel), ?_⟩
    refine ⟨_, rfl, _, rfl, _, _, rfl, rfl, (lo : Int), (hi : Int) + 1, rfl, ⟨by omega, by omega, by omega, by omega⟩, fun D nD => ?_⟩
    rw [show (((hi : Int) + 1) - (lo : Int)).toNat = hi + 1 - lo by omega]
    refine lc_range (lo := (lo : Int)) (n := hi + 1 - lo) (fun i H' => Same H H' ∧ H' D = some (.lst (((numL lo hi).take i).map V.str))) ⟨same_upd nD, upd_same⟩ ?_ ?_
    · rintro i H1 hi1 ⟨sm, hD⟩
      refine ⟨rfl, ?_⟩
      refine ⟨_, rfl, _, rfl, lg1920 (by omega), _, hD, ?_, sm.put nD, ?_⟩
      · rw [List.length_map, List.length_take]
        exact small1000 (by omega)
      · have gi : (numL lo hi)[i]? = some (nt ((lo : Int) + (i : Int))) := by
          unfold numL
          rw [List.getElem?_map, List.getElem?_range hi1]
          rfl
        rw [upd_same, List.take_add_one, gi, List.map_append]
        rfl
    rintro H1 ⟨sm, hD⟩
    rw [List.take_of_length_le (by unfold numL; rw [List.length_map, List.length_range]; exact Nat.le_refl _)] at hD
    refine ⟨p, D, ts, numL lo hi, rfl, rd.same sm, hD, numL_ne h12, fun yes H2 ki rd2 => ?_, fun no H2 d ki hd => ?_⟩
    · obtain ⟨k', k0, k12, ew⟩ := numL_at yes h12
      have ei := num_int k0 k12
      rw [if_pos yes] at Qk
      refine ⟨hdW ts, k', rfl, by rw [ew]; exact ei, ?_, ?_⟩
      · rw [ew, ← cL_len]
        exact Nat.le_trans (num_one k0 k12).1 (by decide)
      · exact Qk _ _ rfl H2 _ ((Ki.of sm).trans ki) rd2 (by rw [ew, ei]; rfl)
    · rw [if_neg no] at Ek
      exact Ek _ rfl H2 d ((Ki.of sm).trans ki) hd
/-! Reader.name_above -/
def spRa (K : PySem.W.Frag) (C BT : Addr) : Sp := fun vs H Q E => ∃ (p kw : Addr) (ts : List Tok) (last : Str), vs = [.ref p, .str last, .ref kw] ∧ RdrAt C H p ts ∧ (∀ H, SqT K H kw (keptW.map V.str)) ∧ FinR C BT (fun _ v s => v = .str s) H Q E p (rdName last ts)
theorem scRa : FnScope ["self", "last", "kept", "piece"] ["self", "last", "kept"] (defScope sRa) := ⟨rfl, rfl, rfl, by decide +kernel, rfl, by decide +kernel, by decide +kernel⟩
theorem ok_ra {f fC fR fI C BT : Addr} {fd fdC fdR fdI : FuncData} {k : Nat} (F : Fun K "name_above" "Reader.name_above" sRa f fd) (M : Rc K C) (Cm : Mth P w K mg base CX0 C k "coming" ["self"] (spCm C) fC fdC) (Rf : Mth P w K mg base (L2.CX P w) C k "refuse" ["self"] (spRf C BT) fR fdR)
    (Is : Has P w K mg base k "is_name" ["text"] spIsA fI fdI) : FnOk P w K mg base (L2.CX P w) (k + 1) f fd ["self", "last", "kept"] (spRa K C BT) := by
  refine F.okX scRa (fun vs H Q E h => ?_) (fun cdv A outer s H vs Q E hr h => ?_)
  · obtain ⟨p, kw, ts, last, rfl, _⟩ := h
    rfl
  · obtain ⟨p, kw, ts, last, rfl, rd, hk, Qk, Ek⟩ := h
    refine ⟨_, pss_cons (ps_set (i := 3) scRa.nd rfl (.inl rfl) (pe_meth0 (pv 0) M.cl Cm.m Cm.G hr Cm.b .nil pass0))
      (pss_cons (ps_if (PW.pt (pw_or (pt_not (pt_val (pe_call Is.G hr (by rfl) Is.g Is.kp Is.b .nil pass0 (pa_cons (pv 3) pa_nil)))) (pw_or (pt_cmpR op_in_seq (pv 3) (pv 2) (by rfl)) (pw_or1 (pt_cmpR op_le_str (pv 3) (pv 1) (nomark _)))))) (pss_one (ps_expr (pe_meth0 (pv 0) M.cl Rf.m Rf.G hr Rf.b .nil (passes_call (takes_of rfl rfl rfl rfl) (fun _ _ _ _ h => h))))) pss_nil)
      (pss_cons (ps_fldaug (pv 0) pe_int in_add)
      (pss_one (ps_ret (pv 3))))), ?_⟩
    rw [name_eq rd.end_] at Qk Ek
    obtain ⟨dx, q, j, hp⟩ := rd.ins
    refine ⟨_, rfl, p, dx, _, rfl, hp, rf_no _ _ (by decide +kernel) (by decide +kernel), p, ts, rfl, rd, ?_⟩
    have fail : nameOk last (hdW ts) = false → ∀ H1 (σ : L2.St) (D : Ends), Same H H1 → σ[0]? = some (some (.ref p)) → tDrop (tMeth C "refuse" (spRf C BT) [] E (tVar 0) tNil) D σ H1 := fun no H1 σ D sm h0 => by
      obtain ⟨dx', q', j', hp'⟩ := (rd.same sm).ins
      rw [if_neg (by rw [no]; exact Bool.false_ne_true)] at Ek
      exact ⟨_, h0, p, dx', _, rfl, hp', rf_no _ _ (by decide +kernel) (by decide +kernel), p, ts, rfl, rd.same sm, fun H' d sm' hd => Ek _ rfl H' d (Ki.of (sm.trans sm')) hd⟩
    refine ⟨_, rfl, hdW ts, rfl, rd.hd.2, fun H1 s1 => ?_⟩
    refine ⟨_, rfl, ite2 (fun e => ?_) (fun e => ?_)⟩
    · refine iteT (fail ?_ H1 _ _ s1 rfl)
      unfold nameOk
      rw [show nameB (hdW ts) = false by simpa using e]
      rfl
    have b1 : nameB (hdW ts) = true := by simpa using e
    refine ⟨_, rfl, _, rfl, kw, _, rfl, .inr (hk H1), rfl, strs_flat _, _, rfl, ?_⟩
    rw [if_neg Bool.false_ne_true, inV_mem]
    refine ite2 (fun e2 => ?_) (fun e2 => ?_)
    · refine iteT (fail ?_ H1 _ _ s1 rfl)
      unfold nameOk
      rw [show keptW.contains (hdW ts) = true from List.contains_iff_mem.mpr (of_decide_eq_true e2), b1]
      rfl
    have b2 : keptW.contains (hdW ts) = false := by
      cases z : keptW.contains (hdW ts) with
      | false => rfl
      | true => exact absurd (decide_eq_true (List.contains_iff_mem.mp z)) e2
    refine ⟨_, rfl, _, rfl, _, _, rfl, rfl, _, rfl, ite2 (fun e3 => ?_) (fun e3 => ?_)⟩
    · refine fail ?_ H1 _ _ s1 rfl
      unfold nameOk
      have : decide (last.cps.toList < (hdW ts).cps.toList) = false := by simpa using e3
      rw [b1, b2, this]
      rfl
    have ok : nameOk last (hdW ts) = true := by
      have : decide (last.cps.toList < (hdW ts).cps.toList) = true := by simpa using e3
      unfold nameOk
      rw [b1, b2, this]
      rfl
    rw [if_pos ok] at Qk
    exact aug_fin M (rd.same s1) (nameOk_ne ok) rfl fun H' ki rd' => ⟨_, rfl, Qk _ _ rfl H' _ ((Ki.of s1).trans ki) rd' rfl⟩
/-! Reader.__init__ -/
def spRi (C : Addr) : Sp := fun vs H Q _ => ∃ (H0 : Hp) (p dx : Addr) (z : Str), vs = [.ref p, .str z] ∧ Same H0 H ∧ H0 p = none ∧ H p = some (.ins C dx []) ∧ z.length ≤ 1000000 ∧ ∀ H', Same H0 H' → RdrAt C H' p (toks z) → Q .non H'
theorem scRi : FnScope ["self", "text"] ["self", "text"] (defScope sRi) := ⟨rfl, rfl, rfl, by decide +kernel, rfl, by decide +kernel, by decide +kernel⟩
theorem ok_ri {f fP C : Addr} {fd fdP : FuncData} {k : Nat} (F : Fun K "__init__" "Reader.__init__" sRi f fd) (M : Rc K C) (Pc : Has P w K mg base k "pieces_of" ["text"] spPc fP fdP) : FnOk P w K mg base CX0 (k + 1) f fd ["self", "text"] (spRi C) := by
  refine F.ok scRi (fun vs H Q E h => ?_) (fun cdv A outer s H vs Q E hr h => ?_)
  · obtain ⟨H0, p, dx, z, rfl, _⟩ := h
    rfl
  · obtain ⟨H0, p, dx, z, rfl, s0, p0, hp, hz, Qk⟩ := h
    refine ⟨_, pss_cons (ps_fld (pv 0) (pe_call Pc.G hr (by rfl) Pc.g Pc.kp Pc.b .nil pass0 (pa_cons (pv 1) pa_nil)) rfl)
      (pss_one (ps_fld (pv 0) pe_int rfl)), ?_⟩
    refine ⟨_, rfl, z, rfl, hz, fun H1 q ts s1 nq hq pr lq => ?_⟩
    have hp1 := s1 _ _ hp
    refine ⟨_, rfl, p, C, dx, _, rfl, hp1, M.cl, M.nP, (by show 0 < 1000; decide), ?_⟩
    refine ⟨_, rfl, p, C, dx, _, rfl, upd_same, M.cl, M.nT, Nat.lt_of_le_of_lt (put_len _ _ _) (by show 1 < 1000; decide), ?_⟩
    rw [upd_upd]
    have nqp : q ≠ p := (ne_of_fresh hp nq)
    refine Qk _ ((s0.trans s1).put p0) ⟨dx, q, ts, toks z, 0, upd_same, by rw [upd_ne nqp]; exact hq, paired_mono (fun _ _ ⟨a, e, h⟩ => ⟨a, e, by rw [upd_ne fun z => by rw [z, hp1] at h; cases h]; exact h⟩) pr, rfl, toks_end z, lq, toks_small hz⟩
end
end Hl

set_option Elab.async false
set_option linter.all false
set_option maxRecDepth 100000
set_option maxHeartbeats 4000000
namespace Hl
open PySem PySem.Spec PyProof.Rows L2 Tk
abbrev sRp : Stmt := topS 35
abbrev sRps : Stmt := topS 36
/-- the words that are kept, as they stand in the program -/
structure Kw (K : PySem.W.Frag) (mg : Str → Option Value) (kw : Addr) : Prop where
  g : mg "KEPT_WORDS" = some (.ref kw)
  t : ∀ H, SqT K H kw (keptW.map V.str)
theorem pair_eq {last nm : Str} {ts ts1 : List Tok} (h : rdName last ts = .ok (nm, ts1)) : rdPair last ts = if dig1 (hdW ts1) = true then (match rdNum 2 4 ts1 with | .error e => .error e | .ok (n, ts2) => .ok ((nm, n), ts2)) else .ok ((nm, 1), ts1) := by
  unfold rdPair
  rw [h] <;> rfl
section
variable {P : Program} {w : World} {K : PySem.W.Frag} {mg : Str → Option Value} {base : Heap}
/-! read_pair -/
def spRp (C BT : Addr) : Sp := fun vs H Q E => ∃ (p : Addr) (ts : List Tok) (last : Str), vs = [.ref p, .str last] ∧ RdrAt C H p ts ∧ FinR C BT PairAt H Q E p (rdPair last ts)
theorem scRp : FnScope ["reader", "last", "name"] ["reader", "last"] (defScope sRp) := ⟨rfl, rfl, rfl, by decide +kernel, rfl, by decide +kernel, by decide +kernel⟩
theorem ok_rp {f fA fC fN C BT kw : Addr} {fd fdA fdC fdN : FuncData} {k : Nat} (F : Fun K "read_pair" "read_pair" sRp f fd) (M : Rc K C) (Cn : Cn mg) (Kw : Kw K mg kw) (Ra : Mth P w K mg base (L2.CX P w) C k "name_above" ["self", "last", "kept"] (spRa K C BT) fA fdA)
    (Cm : Mth P w K mg base CX0 C k "coming" ["self"] (spCm C) fC fdC) (Rn : Mth P w K mg base (L2.CX P w) C k "number" ["self", "low", "high"] (spRn C BT) fN fdN) : FnOk P w K mg base (L2.CX P w) (k + 1) f fd ["reader", "last"] (spRp C BT) := by
  obtain ⟨tm, hm⟩ := Cn.ma
  refine F.okX scRp (fun vs H Q E h => ?_) (fun cdv A outer s H vs Q E hr h => ?_)
  · obtain ⟨p, ts, last, rfl, _⟩ := h
    rfl
  · obtain ⟨p, ts, last, rfl, rd, Qk, Ek⟩ := h
    refine ⟨_, pss_cons (ps_set (i := 2) scRp.nd rfl (.inl rfl) (pe_meth (pv 0) M.cl Ra.m Ra.G hr Ra.b .nil (passes_call (takes_of rfl rfl rfl rfl) (fun _ _ _ _ h => h)) (pa_cons (pv 1) (pa_cons (pe_glob (v := .ref kw) rfl Kw.g rfl) pa_nil))))
      (pss_cons (ps_if (pt_val (pe_m0 PySem.F.slot_str_isdigit PySem.F.type_str_isdigit mt_isdigit (pe_slice sl_str (pe_meth0 (pv 0) M.cl Cm.m Cm.G hr Cm.b .nil pass0) po_none (po_some pe_int))))
          (pss_one (ps_ret (pe_tup (pa_cons (pv 2) (pa_cons (pe_meth (pv 0) M.cl Rn.m Rn.G hr Rn.b .nil (passes_call (takes_of rfl rfl rfl rfl) (fun _ _ _ _ h => h)) (pa_cons pe_int (pa_cons (pe_glob (v := .int 4) rfl hm ⟨_, rfl⟩) pa_nil))) pa_nil))))) pss_nil)
      (pss_one (ps_ret (pe_tup (pa_cons (pv 2) (pa_cons pe_int pa_nil)))))), ?_⟩
    obtain ⟨dx, q, j, hp⟩ := rd.ins
    refine ⟨_, rfl, p, dx, _, rfl, hp, rf_no _ _ (by decide +kernel) (by decide +kernel), _, rfl, p, kw, ts, last, rfl, rd, Kw.t, fun nm ts1 e1 H1 v k1 rd1 ev => ?_, fun e1 h1 => Ek e1 (by unfold rdPair; rw [h1])⟩
    subst ev
    have ep := pair_eq e1
    obtain ⟨dx1, q1, j1, hp1⟩ := rd1.ins
    refine ⟨_, rfl, p, dx1, _, rfl, hp1, rf_no _ _ (by decide +kernel) (by decide +kernel), p, ts1, rfl, rd1, _, rfl, _, rfl, Nat.le_trans rd1.hd.2 (by decide), ⟨_, rfl⟩, _, rfl, rfl, trivial, _, rfl, ?_⟩
    refine ite2 (fun e => ?_) (fun e => ?_)
    · have d1 : dig1 (hdW ts1) = true := e
      rw [if_pos d1] at ep
      refine ⟨_, rfl, _, rfl, p, dx1, _, rfl, hp1, rf_no _ _ (by decide +kernel) (by decide +kernel), p, ts1, 2, 4, rfl, rd1, by decide, by decide, fun n ts2 e2 H2 v k2 rd2 ev => ?_, fun e2 h2 H' d ki hd => ?_⟩
      · subst ev
        rw [e2] at ep
        refine ⟨(by show 2 ≤ sizeLine; decide), fun T nT => ?_⟩
        have sT := same_upd (o := .tup [.str nm, .int n]) nT
        exact Qk _ _ ep _ _ ((k1.trans k2).trans (Ki.of sT)) (rd2.same sT) ⟨T, rfl, upd_same⟩
      · rw [h2] at ep
        exact Ek _ ep H' d (k1.trans ki) hd
    · have d1 : ¬ dig1 (hdW ts1) = true := e
      rw [if_neg d1] at ep
      refine ⟨_, rfl, (by show 2 ≤ sizeLine; decide), fun T nT => ?_⟩
      have sT := same_upd (o := .tup [.str nm, .int 1]) nT
      exact Qk _ _ ep _ _ (k1.trans (Ki.of sT)) (rd1.same sT) ⟨T, rfl, upd_same⟩
/-! read_pairs -/
def WRp (C p D : Addr) (H : Hp) (R : Rd (List (Str × Int))) (m : Nat) (σ' : L2.St) (H' : Hp) : Prop := ∃ (dvs : List V) (v0 : V) (done : List (Str × Int)) (p0 : Str × Int) (ts : List Tok), σ' = [some (.ref p), some (.ref D)] ∧ Ki H H' ∧ H' D = some (.lst (dvs ++ [v0])) ∧ Paired (PairAt H') (dvs ++ [v0]) (done ++ [p0]) ∧ RdrAt C H' p ts ∧ R = rdMoreP m (done ++ [p0]) ts ∧ ts.length ≤ m ∧ done.length + ts.length ≤ 1000001
def spRps (C BT : Addr) : Sp := fun vs H Q E => ∃ (p : Addr) (ts : List Tok), vs = [.ref p] ∧ RdrAt C H p ts ∧ FinR C BT (fun H' v ps => ∃ t, v = .ref t ∧ PairsAt H' t ps) H Q E p (rdPairs ts)
theorem scRps : FnScope ["reader", "pairs"] ["reader"] (defScope sRps) := ⟨rfl, rfl, rfl, by decide +kernel, rfl, by decide +kernel, by decide +kernel⟩
theorem num_less {lo hi : Nat} {ts ts' : List Tok} {n : Int} (h : rdNum lo hi ts = .ok (n, ts')) : ts'.length + 1 = ts.length := by
  cases ts with
  | nil => cases h
  | cons t r =>
    obtain ⟨a, x⟩ := t
    have h' : (if x ∈ numL lo hi then Except.ok ((PySem.intText? x).getD 0, r) else Except.error a : Rd Int) = .ok (n, ts') := h
    split at h'
    · cases h'
      rfl
    · cases h'
theorem name_less {last : Str} {ts ts' : List Tok} {n : Str} (h : rdName last ts = .ok (n, ts')) : ts'.length + 1 = ts.length := by
  cases ts with
  | nil => cases h
  | cons t r =>
    obtain ⟨a, x⟩ := t
    have h' : (if nameOk last x = true then Except.ok (x, r) else Except.error a : Rd Str) = .ok (n, ts') := h
    split at h'
    · cases h'
      rfl
    · cases h'
theorem pair_less {last : Str} {ts ts' : List Tok} {p : Str × Int} (h : rdPair last ts = .ok (p, ts')) : ts'.length + 1 ≤ ts.length := by
  unfold rdPair at h
  cases e1 : rdName last ts with
  | error e =>
    rw [e1] at h
    cases h
  | ok r =>
    obtain ⟨nm, t1⟩ := r
    have l1 := name_less e1
    rw [e1] at h
    dsimp only at h
    split at h
    · cases e2 : rdNum 2 4 t1 with
      | error e =>
        rw [e2] at h
        cases h
      | ok r2 =>
        obtain ⟨n, t2⟩ := r2
        have l2 := num_less e2
        rw [e2] at h
        cases h
        omega
    · cases h
      omega
theorem ok_rps {f fP fT C BT : Addr} {fd fdP fdT : FuncData} {k : Nat} (F : Fun K "read_pairs" "read_pairs" sRps f fd) (M : Rc K C) (B : Bi mg) (Rp : HasX P w K mg base (L2.CX P w) k "read_pair" ["reader", "last"] (spRp C BT) fP fdP)
    (Rt : Mth P w K mg base CX0 C k "takes" ["self", "piece"] (spRt C) fT fdT) : FnOk P w K mg base (L2.CX P w) (k + 1) f fd ["reader"] (spRps C BT) := by
  refine F.okX scRps (fun vs H Q E h => ?_) (fun cdv A outer s H vs Q E hr h => ?_)
  · obtain ⟨p, ts, rfl, _⟩ := h
    rfl
  · obtain ⟨p, ts, rfl, rd, Qk, Ek⟩ := h
    refine ⟨_, pss_cons (ps_set (i := 1) scRps.nd rfl (.inl rfl) (pe_lst (pa_cons (pe_call Rp.G hr (by rfl) Rp.g Rp.kp Rp.b .nil (passes_call (takes_of rfl rfl rfl rfl) (fun _ _ _ _ h => h)) (pa_cons (pv 0) (pa_cons pe_str pa_nil))) pa_nil)))
      (pss_cons (ps_while (passes_of rfl) (pt_val (pe_meth (pv 0) M.cl Rt.m Rt.G hr Rt.b .nil pass0 (pa_cons pe_str pa_nil)))
          (pss_one (ps_expr (pe_bm PySem.F.plainAttrs_list PySem.F.slot_list_append PySem.F.type_list_append mt_append (pv 1) (pa_cons (pe_call Rp.G hr (by rfl) Rp.g Rp.kp Rp.b .nil (passes_call (takes_of rfl rfl rfl rfl) (fun _ _ _ _ h => h)) (pa_cons (pv 0) (pa_cons (pe_ix ix_tup (pe_ix ix_list (pv 1) (pe_un un_neg pe_int) (fun _ _ => rfl)) pe_int (fun _ _ => rfl)) pa_nil))) pa_nil)))))
      (pss_one (ps_ret (pe_callTy (r := rTupF K) call_tupF (by rfl) B.tup (by decide +kernel) (pa_cons (pv 1) pa_nil))))), ?_⟩
    have l0 : ts.length ≤ 1000001 := by
      obtain ⟨_, _, _, all, kk, _, _, _, dr, _, al, _⟩ := rd
      rw [← dr, List.length_drop]
      omega
    refine ⟨_, rfl, p, ts, "", rfl, rd, fun p0 ts1 e1 H1 v0 k1 rd1 pa0 => ?_, fun e1 h1 => Ek e1 (by unfold rdPairs; rw [h1])⟩
    have ep : rdPairs ts = rdMoreP ts1.length ([] ++ [p0]) ts1 := by
      unfold rdPairs
      rw [e1]
      rfl
    have lt1 := pair_less e1
    refine ⟨(by show 1 ≤ sizeLine; decide), fun D nD => ?_⟩
    have sD := same_upd (o := .lst [v0]) nD
    refine ⟨WRp C p D H1 (rdPairs ts), ⟨ts1.length, [], v0, [], p0, ts1, rfl, Ki.of sD, upd_same, .cons (pa0.ki (Ki.of sD)) .nil, rd1.same sD, ep, Nat.le_refl _, by simp; omega⟩, ?_⟩
    rintro m σ' H2 ⟨dvs, v1, done, p1, ts2, rfl, k2, hD, pr, rd2, eR, hm, hl⟩
    obtain ⟨t, r, ets⟩ := rd2.end_.some
    cases m with
    | zero =>
      rw [ets] at hm
      cases hm
    | succ m =>
    obtain ⟨dx2, q2, j2, hp2⟩ := rd2.ins
    have eR' : rdPairs ts = if hdW ts2 = "," then (match rdPair (((done ++ [p1]).getLast?.map (·.1)).getD "") ts2.tail with | .error e => .error e | .ok (p, t3) => rdMoreP m ((done ++ [p1]) ++ [p]) t3) else .ok (done ++ [p1], ts2) := eR
    refine ⟨_, rfl, p, dx2, _, rfl, hp2, rf_no _ _ (by decide +kernel) (by decide +kernel), p, ts2, ",", rfl, rd2, by decide +kernel, fun no => ?_, fun yes H3 k3 rd3 => ?_⟩
    · -- no more
      rw [if_neg no] at eR'
      refine ⟨_, rfl, iF rfl ?_⟩
      refine ⟨_, rfl, D, _, rfl, .inl ⟨SqL.of hD, fun T o nT dn => ?_⟩⟩
      have sT := same_upd (o := .frz o (.tup (dvs ++ [v1]))) nT
      exact Qk _ _ eR' _ _ ((k1.trans k2).trans (Ki.of sT)) (rd2.same sT) ⟨T, rfl, _, ⟨o, dn, upd_same⟩, paired_mono (fun _ _ h => h.ki (Ki.of sT)) pr⟩
    · -- one more
      rw [if_pos yes, show (((done ++ [p1]).getLast?.map (fun x : Str × Int => x.1)).getD ("" : Str)) = p1.1 by simp] at eR'
      refine ⟨_, rfl, iT rfl ⟨fun σ' H' => ∃ m', m' < m + 1 ∧ WRp C p D H1 (rdPairs ts) m' σ' H', fun _ _ h => h, ?_⟩⟩
      have hD3 := k3.keep _ _ ni_lst hD
      have pr3 := paired_mono (fun _ _ h => PairAt.ki k3 h) pr
      obtain ⟨a1, ev1, ha1⟩ : PairAt H3 v1 p1 := by
        have lv := pr3.length
        rw [List.length_append, List.length_append] at lv
        obtain ⟨y, hy, ra⟩ := paired_get pr3 dvs.length v1 (by simp)
        have : (done ++ [p1])[dvs.length]? = some p1 := by
          have e : dvs.length = done.length := by simpa using lv
          rw [e]
          simp
        rw [this] at hy
        cases hy
        exact ra
      refine ⟨_, rfl, .inl ⟨rfl, _, Or.inl (Or.inl hD3)⟩, _, rfl, _, rfl, _, rfl, D, _, -1, v1, rfl, rfl, SqL.of hD3, atI_last _ _, a1, _, 0, _, ev1, rfl, SqT.of ha1, atI_nat (j := 0) rfl, p, ts2.tail, p1.1, rfl, rd3, fun p2 ts3 e3 H4 v2 k4 rd4 pa2 => ?_, fun e3 h3 H' d ki hd => ?_⟩
      · rw [e3] at eR'
        have l3 := pair_less e3
        have l2 : ts2.length = ts2.tail.length + 1 := by rw [ets]; rfl
        have hD4 := k4.keep _ _ ni_lst hD3
        have lv := pr.length
        rw [List.length_append, List.length_append, List.length_singleton, List.length_singleton] at lv
        refine ⟨D, _, v2, rfl, rfl, hD4, ?_, m, by omega, dvs ++ [v1], v2, done ++ [p1], p2, ts3, rfl, ((k2.trans k3).trans k4).put nD, upd_same, ?_, rd4.put hD4 (rd1.qne ((k2.trans k3).trans k4) nD), eR', by omega, ?_⟩
        · rw [List.length_append, List.length_singleton]
          have : dvs.length + 1 ≤ 1000002 := by omega
          exact Nat.lt_of_le_of_lt this (by decide)
        · have hk : ∀ v q, PairAt H4 v q → PairAt (upd H4 D (.lst ((dvs ++ [v1]) ++ [v2]))) v q := fun v q ⟨a, e, h⟩ => ⟨a, e, by rw [upd_ne fun z => by rw [z, hD4] at h; cases h]; exact h⟩
          exact paired_snoc (paired_mono (fun _ _ h => hk _ _ (PairAt.ki k4 h)) pr3) (hk _ _ pa2)
        · rw [List.length_append, List.length_singleton]
          omega
      · rw [h3] at eR'
        exact Ek _ eR' H' d (((k1.trans k2).trans k3).trans ki) hd
end
end Hl

set_option Elab.async false
set_option linter.all false
set_option maxRecDepth 100000
set_option maxHeartbeats 4000000
namespace Hl
open PySem PySem.Spec PyProof.Rows L2 Tk
abbrev sRr : Stmt := topS 37
theorem one_read {C BT p : Addr} {H : Hp} {ts : List Tok} {σ : L2.St} {i : Nat} {x : Str} {Q : VK} {E : XK} (rd : RdrAt C H p ts) (h0 : σ[i]? = some (some (.ref p))) (hx : x ≠ "") (Qk : ∀ t1, rdOne x ts = .ok ((), t1) → ∀ H' v, Ki H H' → RdrAt C H' p t1 → Q v H')
    (Ek : ∀ e, rdOne x ts = .error e → ∀ (H' : Hp) (d : Addr), Ki H H' → H' d = some (.xd (Hw.errF "BadText" ["at"] [.int (e : Nat)])) → E (.ref BT) (some d) H') :
    tMeth C "one_of" (spRo C BT) [] E (tVar i) (tCons (tLst (tCons (tC (.str x)) tNil)) tNil) σ H Q := by
  obtain ⟨dx, q, j, hp⟩ := rd.ins
  rw [one_eq rd.end_] at Qk Ek
  refine ⟨_, h0, p, dx, _, rfl, hp, rf_no _ _ (by decide +kernel) (by decide +kernel), (by show 1 ≤ sizeLine; decide), fun L nL => ?_⟩
  have sL := same_upd (o := .lst [.str x]) nL
  refine ⟨p, L, ts, [x], rfl, rd.same sL, upd_same, fun z => hx (List.mem_singleton.mp z).symm, fun yes H' ki rd' => ?_, fun no H' d ki hd => ?_⟩
  · rw [if_pos (List.mem_singleton.mp yes)] at Qk
    exact Qk _ rfl H' _ ((Ki.of sL).trans ki) rd'
  · rw [if_neg fun z => no (List.mem_singleton.mpr z)] at Ek
    exact Ek _ rfl H' d ((Ki.of sL).trans ki) hd
theorem take_read {C p : Addr} {H : Hp} {ts : List Tok} {σ : L2.St} {x : Str} {Q : VK} {E : XK} (rd : RdrAt C H p ts) (h0 : σ[0]? = some (some (.ref p))) (hx : x ≠ "") (Qn : hdW ts ≠ x → Q (.bl false) H) (Qy : hdW ts = x → ∀ H', Ki H H' → RdrAt C H' p ts.tail → Q (.bl true) H') :
    tMeth C "takes" (spRt C) [] E (tVar 0) (tCons (tC (.str x)) tNil) σ H Q := by
  obtain ⟨dx, q, j, hp⟩ := rd.ins
  exact ⟨_, h0, p, dx, _, rfl, hp, rf_no _ _ (by decide +kernel) (by decide +kernel), p, ts, x, rfl, rd, hx, Qn, Qy⟩
theorem num_read {C BT p : Addr} {H : Hp} {ts : List Tok} {σ : L2.St} {lo hi : Nat} {Q : VK} {E : XK} (rd : RdrAt C H p ts) (h0 : σ[0]? = some (some (.ref p))) (lh : lo ≤ hi) (h12 : hi ≤ 12) (Qk : ∀ n t1, rdNum lo hi ts = .ok (n, t1) → ∀ H', Ki H H' → RdrAt C H' p t1 → Q (.int n) H')
    (Ek : ∀ e, rdNum lo hi ts = .error e → ∀ (H' : Hp) (d : Addr), Ki H H' → H' d = some (.xd (Hw.errF "BadText" ["at"] [.int (e : Nat)])) → E (.ref BT) (some d) H') :
    tMeth C "number" (spRn C BT) [] E (tVar 0) (tCons (tC (.int (lo : Nat))) (tCons (tC (.int (hi : Nat))) tNil)) σ H Q := by
  obtain ⟨dx, q, j, hp⟩ := rd.ins
  exact ⟨_, h0, p, dx, _, rfl, hp, rf_no _ _ (by decide +kernel) (by decide +kernel), p, ts, lo, hi, rfl, rd, lh, h12, fun n t1 e H' v ki rd' ev => by rw [ev]; exact Qk n t1 e H' ki rd', Ek⟩
section
variable {P : Program} {w : World} {K : PySem.W.Frag} {mg : Str → Option Value} {base : Heap}
/-! read_rule -/
def spRr (C BT : Addr) : Sp := fun vs H Q E => ∃ (p : Addr) (ts : List Tok), vs = [.ref p] ∧ RdrAt C H p ts ∧ FinR C BT RuleAt H Q E p (rdRule ts)
abbrev nmRr : List Str := ["reader", "every", "after", "weights", "gives", "most"]
theorem scRr : FnScope nmRr ["reader"] (defScope sRr) := ⟨rfl, rfl, rfl, by decide +kernel, rfl, by decide +kernel, by decide +kernel⟩
theorem ok_rr {f fO fN fT fS C BT : Addr} {fd fdO fdN fdT fdS : FuncData} {k : Nat} (F : Fun K "read_rule" "read_rule" sRr f fd) (M : Rc K C) (Cn : Cn mg) (Ro : Mth P w K mg base (L2.CX P w) C k "one_of" ["self", "allowed"] (spRo C BT) fO fdO)
    (Rn : Mth P w K mg base (L2.CX P w) C k "number" ["self", "low", "high"] (spRn C BT) fN fdN) (Rt : Mth P w K mg base CX0 C k "takes" ["self", "piece"] (spRt C) fT fdT) (Rs : HasX P w K mg base (L2.CX P w) k "read_pairs" ["reader"] (spRps C BT) fS fdS) :
    FnOk P w K mg base (L2.CX P w) (k + 1) f fd ["reader"] (spRr C BT) := by
  obtain ⟨te, he⟩ := Cn.ev
  obtain ⟨ta, hA⟩ := Cn.af
  obtain ⟨tt, hT⟩ := Cn.ti
  refine F.okX scRr (fun vs H Q E h => ?_) (fun cdv A outer s H vs Q E hr h => ?_)
  · obtain ⟨p, ts, rfl, _⟩ := h
    rfl
  · obtain ⟨p, ts, rfl, rd, Qk, Ek⟩ := h
    refine ⟨_, (pss_cons (ps_expr (pe_meth (pv 0) M.cl Ro.m Ro.G hr Ro.b .nil (passes_call (takes_of rfl rfl rfl rfl) (fun _ _ _ _ h => h)) (pa_cons (pe_lst (pa_cons pe_str pa_nil)) pa_nil)))
        (pss_cons (ps_set (i := 1) scRr.nd rfl (.inl rfl) (pe_meth (pv 0) M.cl Rn.m Rn.G hr Rn.b .nil (passes_call (takes_of rfl rfl rfl rfl) (fun _ _ _ _ h => h)) (pa_cons pe_int (pa_cons (pe_glob (v := .int 6) rfl he ⟨_, rfl⟩) pa_nil))))
        (pss_cons (ps_set (i := 2) scRr.nd rfl (.inl rfl) pe_int)
        (Evl.pss_cut (ps_if (pt_val (pe_meth (pv 0) M.cl Rt.m Rt.G hr Rt.b .nil pass0 (pa_cons pe_str pa_nil))) (pss_one (ps_set (i := 2) scRr.nd rfl (.inl rfl) (pe_meth (pv 0) M.cl Rn.m Rn.G hr Rn.b .nil (passes_call (takes_of rfl rfl rfl rfl) (fun _ _ _ _ h => h)) (pa_cons pe_int (pa_cons (pe_glob (v := .int 12) rfl hA ⟨_, rfl⟩) pa_nil))))) pss_nil)
        (pss_cons (ps_expr (pe_meth (pv 0) M.cl Ro.m Ro.G hr Ro.b .nil (passes_call (takes_of rfl rfl rfl rfl) (fun _ _ _ _ h => h)) (pa_cons (pe_lst (pa_cons pe_str pa_nil)) pa_nil)))
        (pss_cons (ps_set (i := 3) scRr.nd rfl (.inl rfl) (pe_call Rs.G hr (by rfl) Rs.g Rs.kp Rs.b .nil (passes_call (takes_of rfl rfl rfl rfl) (fun _ _ _ _ h => h)) (pa_cons (pv 0) pa_nil)))
        (pss_cons (ps_expr (pe_meth (pv 0) M.cl Ro.m Ro.G hr Ro.b .nil (passes_call (takes_of rfl rfl rfl rfl) (fun _ _ _ _ h => h)) (pa_cons (pe_lst (pa_cons pe_str pa_nil)) pa_nil)))
        (pss_cons (ps_set (i := 4) scRr.nd rfl (.inl rfl) (pe_call Rs.G hr (by rfl) Rs.g Rs.kp Rs.b .nil (passes_call (takes_of rfl rfl rfl rfl) (fun _ _ _ _ h => h)) (pa_cons (pv 0) pa_nil)))
        (pss_cons (ps_set (i := 5) scRr.nd rfl (.inl rfl) pe_non)
        (Evl.pss_cut (ps_if (pt_val (pe_meth (pv 0) M.cl Rt.m Rt.G hr Rt.b .nil pass0 (pa_cons pe_str pa_nil))) (pss_cons (ps_expr (pe_meth (pv 0) M.cl Ro.m Ro.G hr Ro.b .nil (passes_call (takes_of rfl rfl rfl rfl) (fun _ _ _ _ h => h)) (pa_cons (pe_lst (pa_cons pe_str pa_nil)) pa_nil)))
        (pss_one (ps_set (i := 5) scRr.nd rfl (.inl rfl) (pe_meth (pv 0) M.cl Rn.m Rn.G hr Rn.b .nil (passes_call (takes_of rfl rfl rfl rfl) (fun _ _ _ _ h => h)) (pa_cons pe_int (pa_cons (pe_glob (v := .int 6) rfl hT ⟨_, rfl⟩) pa_nil)))))) pss_nil)
        (pss_one (ps_ret (pe_tup (pa_cons pe_str (pa_cons (pv 1) (pa_cons (pv 2) (pa_cons (pv 3) (pa_cons (pv 4) (pa_cons (pv 5) pa_nil))))))))))))))))))), ?_⟩
    -- each
    refine one_read rd rfl (by decide +kernel) (fun t1 e1 H1 _ k1 rd1 => ?_) (fun e1 h1 => Ek e1 (by unfold rdRule; rw [h1]))
    have q1 : rdRule ts = rdR1 t1 := by unfold rdRule; rw [e1]
    refine num_read rd1 rfl (by decide) (by decide) (fun n t2 e2 H2 k2 rd2 => ?_) (fun e2 h2 H' d ki => Ek e2 (by rw [q1]; unfold rdR1; rw [h2]) H' d (k1.trans ki))
    have q2 : rdRule ts = rdR2 n t2 := by rw [q1]; unfold rdR1; rw [e2]
    have k12 := k1.trans k2
    -- after
    refine ⟨fun σ' H' => ∃ (a : Int) (t3 : List Tok), σ' = [some (.ref p), some (.int n), some (.int a), none, none, none] ∧ Ki H H' ∧ RdrAt C H' p t3 ∧ rdRule ts = rdR3 n a t3, ?_, ?_⟩
    · refine take_read rd2 rfl (by decide +kernel) (fun no => ⟨_, rfl, iF rfl ?_⟩) (fun yes H3 k3 rd3 => ⟨_, rfl, iT rfl ?_⟩)
      · refine ⟨0, t2, rfl, k12, rd2, ?_⟩
        rw [q2]
        unfold rdR2 rdAfter
        rw [if_neg no]
      · refine num_read rd3 rfl (by decide) (by decide) (fun a t3 e3 H4 k4 rd4 => ?_) (fun e3 h3 H' d ki => Ek e3 (by rw [q2]; unfold rdR2 rdAfter; rw [if_pos yes, h3]) H' d ((k12.trans k3).trans ki))
        refine ⟨a, t3, rfl, (k12.trans k3).trans k4, rd4, ?_⟩
        rw [q2]
        unfold rdR2 rdAfter
        rw [if_pos yes, e3]
    rintro σ' H3 ⟨a, t3, rfl, k3, rd3, q3⟩
    refine one_read rd3 rfl (by decide +kernel) (fun t4 e4 H4 _ k4 rd4 => ?_) (fun e4 h4 H' d ki => Ek e4 (by rw [q3]; unfold rdR3; rw [h4]) H' d (k3.trans ki))
    have q4 : rdRule ts = rdR4 n a t4 := by rw [q3]; unfold rdR3; rw [e4]
    refine ⟨_, rfl, p, t4, rfl, rd4, fun ws t5 e5 H5 v5 k5 rd5 ⟨wt, ev5, pw⟩ => ?_, fun e5 h5 H' d ki => Ek e5 (by rw [q4]; unfold rdR4; rw [h5]) H' d ((k3.trans k4).trans ki)⟩
    subst ev5
    have q5 : rdRule ts = rdR5 n a ws t5 := by rw [q4]; unfold rdR4; rw [e5]
    have k35 := (k3.trans k4).trans k5
    refine one_read rd5 rfl (by decide +kernel) (fun t6 e6 H6 _ k6 rd6 => ?_) (fun e6 h6 H' d ki => Ek e6 (by rw [q5]; unfold rdR5; rw [h6]) H' d (k35.trans ki))
    have q6 : rdRule ts = rdR6 n a ws t6 := by rw [q5]; unfold rdR5; rw [e6]
    refine ⟨_, rfl, p, t6, rfl, rd6, fun gs t7 e7 H7 v7 k7 rd7 ⟨gt, ev7, pg⟩ => ?_, fun e7 h7 H' d ki => Ek e7 (by rw [q6]; unfold rdR6; rw [h7]) H' d ((k35.trans k6).trans ki)⟩
    subst ev7
    have q7 : rdRule ts = rdR7 n a ws gs t7 := by rw [q6]; unfold rdR6; rw [e7]
    have k37 := (k35.trans k6).trans k7
    have pw7 := pw.ki (k6.trans k7)
    -- most
    refine ⟨fun σ' H' => ∃ (m : Option Int) (t8 : List Tok), σ' = [some (.ref p), some (.int n), some (.int a), some (.ref wt), some (.ref gt), some (moV m)] ∧ Ki H7 H' ∧ RdrAt C H' p t8 ∧ rdRule ts = .ok (⟨n, a, m, ws, gs⟩, t8), ?_, ?_⟩
    · refine take_read rd7 rfl (by decide +kernel) (fun no => ⟨_, rfl, iF rfl ?_⟩) (fun yes H8 k8 rd8 => ⟨_, rfl, iT rfl ?_⟩)
      · refine ⟨none, t7, rfl, Ki.refl _, rd7, ?_⟩
        rw [q7]
        unfold rdR7 rdMost
        rw [if_neg no]
      · refine one_read rd8 rfl (by decide +kernel) (fun t9 e9 H9 _ k9 rd9 => ?_) (fun e9 h9 H' d ki => Ek e9 (by rw [q7]; unfold rdR7 rdMost; rw [if_pos yes, h9]) H' d ((k37.trans k8).trans ki))
        refine num_read rd9 rfl (by decide) (by decide) (fun m tA eA HA kA rdA => ?_) (fun eA hA' H' d ki => Ek eA (by rw [q7]; unfold rdR7 rdMost; rw [if_pos yes, e9]; dsimp only; rw [hA']) H' d (((k37.trans k8).trans k9).trans ki))
        refine ⟨some m, tA, rfl, (k8.trans k9).trans kA, rdA, ?_⟩
        rw [q7]
        unfold rdR7 rdMost
        rw [if_pos yes, e9]
        dsimp only
        rw [eA]
    rintro σ' H8 ⟨m, t8, rfl, k8, rd8, q8⟩
    refine ⟨_, rfl, _, rfl, _, rfl, _, rfl, _, rfl, (by show 6 ≤ sizeLine; decide), fun T nT => ?_⟩
    have sT := same_upd (o := .tup [.str "each", .int n, .int a, .ref wt, .ref gt, moV m]) nT
    exact Qk _ _ q8 _ _ ((k37.trans k8).trans (Ki.of sT)) (rd8.same sT) ⟨T, wt, gt, rfl, upd_same, (pw7.ki k8).ki (Ki.of sT), (pg.ki k8).ki (Ki.of sT)⟩
end
end Hl

set_option Elab.async false
set_option linter.all false
set_option maxRecDepth 100000
set_option maxHeartbeats 4000000
namespace Hl
open PySem PySem.Spec PyProof.Rows L2 Tk
abbrev sRrs : Stmt := topS 38
theorem nodup_sub {l m : List Str} (h : l.Nodup) (s : ∀ x ∈ l, x ∈ m) : l.length ≤ m.length := by
  induction l generalizing m with
  | nil => exact Nat.zero_le _
  | cons x l ih =>
    obtain ⟨n1, n2⟩ := List.nodup_cons.mp h
    have hx := s x List.mem_cons_self
    have h1 : ∀ y ∈ l, y ∈ m.erase x := fun y hy => by
      refine (List.mem_erase_of_ne fun (z : y = x) => n1 (z ▸ hy)).mpr (s y (List.mem_cons_of_mem _ hy))
    have := ih n2 h1
    rw [List.length_erase_of_mem hx] at this
    have h0 : 0 < m.length := List.length_pos_of_mem hx
    rw [List.length_cons]
    omega
theorem NmF.few {rs : List Rl} {pl : Int} {ys : List Str} (h : NmF rs pl ys) (r : Rls rs) : ys.length ≤ 3 := by
  obtain ⟨ins, outs, i3, o3, fw⟩ := r.few
  by_cases e : pl = 3
  · refine Nat.le_trans (nodup_sub h.nd (m := ins) fun x hx => ?_) i3
    obtain ⟨q, hq, hx2⟩ := (h.me x).mp hx
    unfold prF at hx2
    rw [if_pos e] at hx2
    obtain ⟨p, hp, rfl⟩ := List.mem_map.mp hx2
    exact (fw q hq).1 p hp
  · refine Nat.le_trans (nodup_sub h.nd (m := outs) fun x hx => ?_) o3
    obtain ⟨q, hq, hx2⟩ := (h.me x).mp hx
    unfold prF at hx2
    rw [if_neg e] at hx2
    obtain ⟨p, hp, rfl⟩ := List.mem_map.mp hx2
    exact (fw q hq).2 p hp
section
variable {P : Program} {w : World} {K : PySem.W.Frag} {mg : Str → Option Value} {base : Heap}
def WRr (C : Addr) (z : Str) (p D : Addr) (H H1 : Hp) (R : Except Nat (List Rl)) (m : Nat) (σ' : L2.St) (H' : Hp) : Prop := ∃ (vr : List V) (rs : List Rl) (ts : List Tok), σ' = [some (.str z), some (.ref p), some (.ref D)] ∧ Ki H H' ∧ Ki H1 H' ∧ H' D = some (.lst vr) ∧ Paired (RuleAt H') vr rs ∧ RdrAt C H' p ts ∧ R = rdMoreR m rs ts ∧ m + rs.length = 12 ∧ 1 ≤ rs.length
def spRrs (BT : Addr) : Sp := fun vs H Q E => ∃ z : Str, vs = [.str z] ∧ z.length ≤ 1000000 ∧ (∀ rs, rdAll (toks z) = .ok rs → Rls rs) ∧
  (∀ rs, rdAll (toks z) = .ok rs → ∀ (H' : Hp) (q : Addr) (vr : List V), Ki H H' → H q = none → H' q = some (.lst vr) → Paired (RuleAt H') vr rs → Q (.ref q) H') ∧
  (∀ e, rdAll (toks z) = .error e → ∀ (H' : Hp) (d : Addr), Ki H H' → H' d = some (.xd (Hw.errF "BadText" ["at"] [.int (e : Nat)])) → E (.ref BT) (some d) H')
theorem scRrs : FnScope ["text", "reader", "rules"] ["text"] (defScope sRrs) := ⟨rfl, rfl, rfl, by decide +kernel, rfl, by decide +kernel, by decide +kernel⟩
theorem ok_rrs {f fI fR fC fF fO fL fU C BT : Addr} {fd fdI fdR fdC fdF fdO fdL fdU : FuncData} {k : Nat} (F : Fun K "read_rules" "read_rules" sRrs f fd) (M : Rc K C) (MK : Mk K C fI) (gR : mg "Reader" = some (.ref C)) (B : Bi mg) (Cn : Cn mg) (Ri : Mth P w K mg base CX0 C k "__init__" ["self", "text"] (spRi C) fI fdI)
    (Rr : HasX P w K mg base (L2.CX P w) k "read_rule" ["reader"] (spRr C BT) fR fdR) (Cm : Mth P w K mg base CX0 C k "coming" ["self"] (spCm C) fC fdC) (Rf : Mth P w K mg base (L2.CX P w) C k "refuse" ["self"] (spRf C BT) fF fdF)
    (Ro : Mth P w K mg base (L2.CX P w) C k "one_of" ["self", "allowed"] (spRo C BT) fO fdO) (Lo : Has P w K mg base k "letters_of" ["rules"] (spNs K 3) fL fdL) (Oo : Has P w K mg base k "outlets_of" ["rules"] (spNs K 4) fU fdU) :
    FnOk P w K mg base (L2.CX P w) (k + 2) f fd ["text"] (spRrs BT) := by
  obtain ⟨tu, hU⟩ := Cn.ru
  obtain ⟨tl, hL⟩ := Cn.le
  refine F.okX scRrs (fun vs H Q E h => ?_) (fun cdv A outer s H vs Q E hr1 h => ?_)
  · obtain ⟨z, rfl, _⟩ := h
    rfl
  · obtain ⟨z, rfl, hz, hok, Qk, Ek⟩ := h
    have hr := hr1.mono (Nat.le_succ k)
    refine ⟨_, (pss_cons (ps_set (i := 1) scRrs.nd rfl (.inl rfl) (pe_make MK Ri.G hr1 (by rfl) gR Ri.b .nil pass0 (pa_cons (pv 0) pa_nil)))
        (pss_cons (ps_set (i := 2) scRrs.nd rfl (.inl rfl) (pe_lst (pa_cons (pe_call Rr.G hr (by rfl) Rr.g Rr.kp Rr.b .nil (passes_call (takes_of rfl rfl rfl rfl) (fun _ _ _ _ h => h)) (pa_cons (pv 1) pa_nil)) pa_nil)))
        (pss_cons (ps_while (passes_of rfl) (pt_cmpR op_ne (pe_meth0 (pv 1) M.cl Cm.m Cm.G hr Cm.b .nil pass0) pe_str (nomark _))
          (Evl.pss_cut (ps_if (pt_cmpR op_eq (pe_callB call_len_seq (by rfl) B.len PySem.boot_len (pa_cons (pv 2) pa_nil)) (pe_glob (v := .int 12) rfl hU ⟨_, rfl⟩) (nomark _)) (pss_one (ps_expr (pe_meth0 (pv 1) M.cl Rf.m Rf.G hr Rf.b .nil (passes_call (takes_of rfl rfl rfl rfl) (fun _ _ _ _ h => h))))) pss_nil)
        (pss_cons (ps_expr (pe_meth (pv 1) M.cl Ro.m Ro.G hr Ro.b .nil (passes_call (takes_of rfl rfl rfl rfl) (fun _ _ _ _ h => h)) (pa_cons (pe_lst (pa_cons pe_str pa_nil)) pa_nil)))
        (pss_one (ps_expr (pe_bm PySem.F.plainAttrs_list PySem.F.slot_list_append PySem.F.type_list_append mt_append (pv 2) (pa_cons (pe_call Rr.G hr (by rfl) Rr.g Rr.kp Rr.b .nil (passes_call (takes_of rfl rfl rfl rfl) (fun _ _ _ _ h => h)) (pa_cons (pv 1) pa_nil)) pa_nil)))))))
        (pss_cons (ps_if (PW.pt (pw_or (pt_cmpR op_gt (pe_callB call_len_seq (by rfl) B.len PySem.boot_len (pa_cons (pe_call Lo.G hr (by rfl) Lo.g Lo.kp Lo.b .nil pass0 (pa_cons (pv 2) pa_nil)) pa_nil)) (pe_glob (v := .int 3) rfl hL ⟨_, rfl⟩) (nomark _)) (pw_or1 (pt_cmpR op_gt (pe_callB call_len_seq (by rfl) B.len PySem.boot_len (pa_cons (pe_call Oo.G hr (by rfl) Oo.g Oo.kp Oo.b .nil pass0 (pa_cons (pv 2) pa_nil)) pa_nil)) (pe_glob (v := .int 3) rfl hL ⟨_, rfl⟩) (nomark _))))) (pss_one ps_never) pss_nil)
        (pss_one (ps_ret (pv 2))))))), ?_⟩
    refine ⟨_, rfl, fun p dx np nd ndp => ?_⟩
    have s0 : Same H (upd H dx (.own p)) := same_upd nd
    refine ⟨H, p, dx, z, rfl, s0.put np, np, upd_same, hz, fun H1 s1 rd1 => ⟨rfl, ?_⟩⟩
    refine ⟨_, rfl, p, toks z, rfl, rd1, fun r0 ts1 e1 H2 v0 k2 rd2 ra0 => ?_, fun e1 h1 H' d ki => Ek e1 (by unfold rdAll; rw [h1]) H' d ((Ki.of s1).trans ki)⟩
    have q1 : rdAll (toks z) = rdMoreR 11 [r0] ts1 := by unfold rdAll; rw [e1]
    refine ⟨(by show 1 ≤ sizeLine; decide), fun D nD => ?_⟩
    have sD := same_upd (o := .lst [v0]) nD
    have k02 := (Ki.of s1).trans k2
    refine ⟨WRr C z p D H H2 (rdAll (toks z)), ⟨11, [v0], [r0], ts1, rfl, k02.trans (Ki.of sD), Ki.of sD, upd_same, .cons (ra0.ki (Ki.of sD)) .nil, rd2.same sD, q1, rfl, Nat.le_refl _⟩, ?_⟩
    rintro m σ' H3 ⟨vr, rs, ts, rfl, k03, k23, hD, pr, rd3, eR, hm, l1⟩
    obtain ⟨dx3, qa, j3, hp3⟩ := rd3.ins
    have lv := pr.length
    refine ⟨_, rfl, p, dx3, _, rfl, hp3, rf_no _ _ (by decide +kernel) (by decide +kernel), p, ts, rfl, rd3, rfl, _, rfl, ite2 (fun e => ?_) (fun e => ?_)⟩
    rotate_left
    · -- the end
      have hd0 : hdW ts = "" := by simpa using e
      have eR' : rdAll (toks z) = .ok rs := by
        rw [eR]
        cases m with
        | zero => exact if_pos hd0
        | succ m => exact if_pos hd0
      have ok := hok rs eR'
      refine ⟨_, rfl, D, vr, rs, rfl, SqL.of hD, pr, ok, fun H4 qs ys s4 nq hq nm => ?_⟩
      refine ⟨qs, _, rfl, .inl (SqL.of hq), _, _, rfl, rfl, _, rfl, ?_⟩
      have f1 := nm.few ok
      refine iF (decide_eq_false (by rw [List.length_map]; omega)) ?_
      refine ⟨_, rfl, D, vr, rs, rfl, SqL.of (s4 _ _ hD), paired_mono (fun _ _ => RuleAt.ki (Ki.of s4)) pr, ok, fun H5 qs2 ys2 s5 nq2 hq2 nm2 => ?_⟩
      refine ⟨qs2, _, rfl, .inl (SqL.of hq2), _, _, rfl, rfl, _, rfl, ?_⟩
      have f2 := nm2.few ok
      refine iF (decide_eq_false (by rw [List.length_map]; omega)) ?_
      have s45 := s4.trans s5
      exact ⟨_, rfl, Qk rs eR' _ _ _ (k03.trans (Ki.of s45)) (k02.free _ nD) (s45 _ _ hD) (paired_mono (fun _ _ => RuleAt.ki (Ki.of s45)) pr)⟩
    -- one more
    have hd0 : hdW ts ≠ "" := fun h => by
      rw [h] at e
      simp at e
    refine ⟨fun σ' H' => ∃ m', m' < m ∧ WRr C z p D H H2 (rdAll (toks z)) m' σ' H', fun _ _ h => h, ?_⟩
    refine ⟨fun σ' H' => σ' = [some (.str z), some (.ref p), some (.ref D)] ∧ H3 = H' ∧ 1 ≤ m, ?_, ?_⟩
    · refine ⟨_, rfl, D, _, rfl, .inl (SqL.of hD), rfl, _, rfl, ite2 (fun e2 => ?_) (fun e2 => ?_)⟩
      · have m0 : m = 0 := by
          have : ((vr.length : Nat) : Int) = 12 := V.int.inj (of_decide_eq_true e2)
          omega
        subst m0
        have eR' : rdAll (toks z) = .error (hdA ts) := by
          rw [eR]
          exact if_neg hd0
        exact ⟨_, rfl, p, dx3, _, rfl, hp3, rf_no _ _ (by decide +kernel) (by decide +kernel), p, ts, rfl, rd3, fun H' d sm hd => Ek _ eR' H' d (k03.trans (Ki.of sm)) hd⟩
      · refine ⟨rfl, rfl, ?_⟩
        cases m with
        | zero =>
          refine absurd (decide_eq_true ?_) e2
          show V.int ((vr.length : Nat) : Int) = V.int 12
          rw [show vr.length = 12 by omega]
          rfl
        | succ m => exact Nat.succ_le_succ (Nat.zero_le _)
    rintro σ' H' ⟨rfl, rfl, m1⟩
    cases m with
    | zero => cases m1
    | succ m =>
    have eR2 : rdAll (toks z) = (match rdOne ";" ts with | .error e => .error e | .ok (_, t1) => match rdRule t1 with | .error e => .error e | .ok (r, t2) => rdMoreR m (rs ++ [r]) t2) := by
      rw [eR]
      exact if_neg hd0
    refine one_read rd3 rfl (by decide +kernel) (fun t4 e4 H4 _ k4 rd4 => ?_) (fun e4 h4 H' d ki => Ek e4 (by rw [eR2, h4]) H' d (k03.trans ki))
    rw [e4] at eR2
    have hD4 := k4.keep _ _ ni_lst hD
    refine ⟨_, rfl, .inl ⟨rfl, _, Or.inl (Or.inl hD4)⟩, _, rfl, p, t4, rfl, rd4, fun r t5 e5 H5 v5 k5 rd5 ra => ?_, fun e5 h5 H' d ki => Ek e5 (by rw [eR2]; dsimp only; rw [h5]) H' d ((k03.trans k4).trans ki)⟩
    have eR3 : rdAll (toks z) = rdMoreR m (rs ++ [r]) t5 := by
      rw [eR2]
      dsimp only
      rw [e5]
    have hD5 := k5.keep _ _ ni_lst hD4
    have k35 := k4.trans k5
    refine ⟨D, vr, v5, rfl, rfl, hD5, small1000 (by omega), m, Nat.lt_succ_self m, vr ++ [v5], rs ++ [r], t5, rfl, (k03.trans k35).put (k02.free _ nD), (k23.trans k35).put nD, upd_same, ?_, rd5.put hD5 (rd2.qne (k23.trans k35) nD), eR3, ?_, ?_⟩
    · exact paired_snoc (paired_mono (fun _ _ h => (RuleAt.ki k35 h).put hD5) pr) (ra.put hD5)
    · rw [List.length_append, List.length_singleton]
      omega
    · rw [List.length_append, List.length_singleton]
      omega
end
end Hl

set_option Elab.async false
set_option linter.all false
set_option maxRecDepth 100000
set_option maxHeartbeats 4000000
namespace Hl
open PySem PySem.Spec PyProof.Rows L2
def SqO (H : Hp) (a : Addr) (vs : List V) : Prop := H a = some (.lst vs) ∨ H a = some (.tup vs)
def iSeq (K : PySem.W.Frag) (tl : TE) : TI := fun σ H R => tl σ H fun x H1 => ∃ a, x = .ref a ∧ ((∃ xs, SqL K H1 a xs) ∧ R (Itl K a) H1 ∨ (∃ xs, SqT K H1 a xs) ∧ R (Itt K a) H1)
theorem pi_seq {X : Cx} {tg l : Expr} {tl : TE} (hl : PE X l tl) : PI X tg l (iSeq X.K tl) := by
  refine ⟨fun pins s σ H R I h => thn (hl.run pins s σ H _ I h) fun v s1 ⟨x, H1, I1, r1, a, ex, q1⟩ => ?_⟩
  subst ex
  cases r1
  have fresh : ∀ b ∈ [s1.heap.objs.size], _ := fun b hb => by
    have e : b = s1.heap.objs.size := by simpa using hb
    subst e
    exact I1.fpOk (Nat.le_refl _) (I1.hok.fresh (Nat.le_refl _))
  rcases q1 with ⟨⟨xs, hq⟩, q⟩ | ⟨⟨xs, hq⟩, q⟩
  · obtain ⟨its, _, p, _⟩ := I1.list hq
    exact wpAny_pyIter_list p.isList ⟨s1.heap.objs.size, [s1.heap.objs.size], _, _, H1, rfl, I1.kept (t' := s1.toks) fun b o e => Heap.get?_push_of_some _ e, turn_list a _, ⟨_, Heap.get?_push_size _ rfl, rfl, rfl⟩, fresh, q⟩
  · obtain ⟨its, _, p, _⟩ := I1.tuple hq
    exact wpAny_pyIter_tuple (show s1.heap.IsTuple a its.toArray from p) ⟨s1.heap.objs.size, [s1.heap.objs.size], _, _, H1, rfl, I1.kept (t' := s1.toks) fun b o e => Heap.get?_push_of_some _ e, turn_tuple a _, ⟨_, Heap.get?_push_size _ rfl, rfl, rfl⟩, fresh, q⟩
theorem for_seq {K : PySem.W.Frag} {a : Addr} {xs : List V} {g : TG} {tb : TS} {D : Ends} {σ : L2.St} {H : Hp} (hO : SqO H a xs) (Pv : Nat → L2.St → Hp → Prop) (h0 : Pv 0 σ H) (hl : ∀ i σ H', Pv i σ H' → ∀ o, H a = some o → H' a = some o)
    (hs : ∀ i x σ H, xs[i]? = some x → Pv i σ H → g x σ H fun σ2 H2 => tb { D with nx := Pv (i + 1), ct := Pv (i + 1), bk := D.nx } σ2 H2) (hd : ∀ σ H, Pv xs.length σ H → D.nx σ H) :
    ((∃ xs, SqL K H a xs) ∧ ∃ W : Nat → Nat → L2.St → Hp → Prop, (∃ m, W 0 m σ H) ∧ ∀ i m σ H, W i m σ H →
      ((Itl K a).stop i H ∧ D.nx σ H) ∨ ((Itl K a).go i H ∧ ∃ N : L2.St → Hp → Prop, (∀ σ' H', N σ' H' → ∃ m', m' < m ∧ W (i + 1) m' σ' H') ∧ ∀ x H', (Itl K a).yld i H x H' → g x σ H' fun σ2 H2 => tb { D with nx := N, ct := N, bk := D.nx } σ2 H2)) ∨
    ((∃ xs, SqT K H a xs) ∧ ∃ W : Nat → Nat → L2.St → Hp → Prop, (∃ m, W 0 m σ H) ∧ ∀ i m σ H, W i m σ H →
      ((Itt K a).stop i H ∧ D.nx σ H) ∨ ((Itt K a).go i H ∧ ∃ N : L2.St → Hp → Prop, (∀ σ' H', N σ' H' → ∃ m', m' < m ∧ W (i + 1) m' σ' H') ∧ ∀ x H', (Itt K a).yld i H x H' → g x σ H' fun σ2 H2 => tb { D with nx := N, ct := N, bk := D.nx } σ2 H2)) := by
  rcases hO with h | h
  · exact .inl ⟨⟨xs, SqL.of h⟩, for_list Pv h0 (fun i σ H' _ p => SqL.of (hl i σ H' p _ h)) hs hd⟩
  · exact .inr ⟨⟨xs, SqT.of h⟩, for_tup Pv h0 (fun i σ H' _ p => SqT.of (hl i σ H' p _ h)) hs hd⟩
theorem lc_seq {K : PySem.W.Frag} {a : Addr} {xs : List V} {g : TG} {tt : TT} {te : TE} {vs : List Nat} {σ : L2.St} {H : Hp} {Qd : Addr → Hp → Prop} (hO : SqO H a xs) (Pv : Addr → Nat → Hp → Prop) (h0 : ∀ D, H D = none → Pv D 0 (upd H D (.lst []))) (hl : ∀ D i H', H D = none → Pv D i H' → ∀ o, H a = some o → H' a = some o)
    (hs : ∀ D i x H', H D = none → xs[i]? = some x → Pv D i H' → g x (wipe σ vs) H' fun σ2 H2 => wipe σ2 vs = wipe σ vs ∧ tt σ2 H2 fun b H3 =>
      if b = true then te σ2 H3 fun y H4 => ∃ acc, H4 D = some (.lst acc) ∧ acc.length < sizeLine ∧ Pv D (i + 1) (upd H4 D (.lst (acc ++ [y]))) else Pv D (i + 1) H3) (hd : ∀ D H', H D = none → Pv D xs.length H' → Qd D H') :
    ((∃ xs, SqL K H a xs) ∧ ∀ D, H D = none → ∃ W : Nat → Nat → Hp → Prop, (∃ m, W 0 m (upd H D (.lst []))) ∧ ∀ i m H, W i m H →
      ((Itl K a).stop i H ∧ Qd D H) ∨ ((Itl K a).go i H ∧ ∃ Nx : Hp → Prop, (∀ H', Nx H' → ∃ m', m' < m ∧ W (i + 1) m' H') ∧ ∀ x H', (Itl K a).yld i H x H' → g x (wipe σ vs) H' fun σ2 H2 => wipe σ2 vs = wipe σ vs ∧ tt σ2 H2 fun b H3 =>
        if b = true then te σ2 H3 fun y H4 => ∃ acc, H4 D = some (.lst acc) ∧ acc.length < sizeLine ∧ Nx (upd H4 D (.lst (acc ++ [y]))) else Nx H3)) ∨
    ((∃ xs, SqT K H a xs) ∧ ∀ D, H D = none → ∃ W : Nat → Nat → Hp → Prop, (∃ m, W 0 m (upd H D (.lst []))) ∧ ∀ i m H, W i m H →
      ((Itt K a).stop i H ∧ Qd D H) ∨ ((Itt K a).go i H ∧ ∃ Nx : Hp → Prop, (∀ H', Nx H' → ∃ m', m' < m ∧ W (i + 1) m' H') ∧ ∀ x H', (Itt K a).yld i H x H' → g x (wipe σ vs) H' fun σ2 H2 => wipe σ2 vs = wipe σ vs ∧ tt σ2 H2 fun b H3 =>
        if b = true then te σ2 H3 fun y H4 => ∃ acc, H4 D = some (.lst acc) ∧ acc.length < sizeLine ∧ Nx (upd H4 D (.lst (acc ++ [y]))) else Nx H3)) := by
  rcases hO with h | h
  · exact .inl ⟨⟨xs, SqL.of h⟩, fun D nD => lc_list (Pv D) (h0 D nD) (fun i H' _ p => SqL.of (hl D i H' nD p _ h)) (fun i x H' => hs D i x H' nD) fun H' => hd D H' nD⟩
  · exact .inr ⟨⟨xs, SqT.of h⟩, fun D nD => lc_tup (Pv D) (h0 D nD) (fun i H' _ p => SqT.of (hl D i H' nD p _ h)) (fun i x H' => hs D i x H' nD) fun H' => hd D H' nD⟩
section
variable {H H' : Hp}
theorem SqO.same {a : Addr} {vs : List V} (k : Same H H') (h : SqO H a vs) : SqO H' a vs := h.elim (fun h => .inl (k _ _ h)) fun h => .inr (k _ _ h)
theorem SqO.or {K : PySem.W.Frag} {a : Addr} {vs : List V} (h : SqO H a vs) : SqL K H a vs ∨ SqT K H a vs := h.elim (fun h => .inl (SqL.of h)) fun h => .inr (SqT.of h)
end
def rTup (K : PySem.W.Frag) : List V → Hp → VK → Prop := fun xs H Q => ∃ p ys, xs = [.ref p] ∧ ((SqL K H p ys ∧ ∀ l, H l = none → Q (.ref l) (upd H l (.tup ys))) ∨ (SqT K H p ys ∧ Q (.ref p) H))
/-! a call by names alone -/
section
variable {X : Cx} {CX : CXT} {k : Nat} {f : Addr} {fd : FuncData} {ps ks : List Str} {sp : Sp} {E : XK} {x : Str} {p pos : Pos} {kws : List Keyword} {tk : TA}
  {g : List Value → List Value → List Value} {gV : List V → List V → List V}
theorem pe_callN0 (F : FnOk X.prog X.w X.K X.mg X.base CX k f fd ps sp) (hr : Room k X.A) (hg : Gl X x) (hm : X.mg x = some (.ref f))
    (hk : PySem.W.keepIn X.K (.ref f) = true) (hb : KBn X.K fd ps 0 ks g gV) (hx : Passes CX X E) (hkw : PK X kws tk)
    (hall : (backToKw pos (keywordEach kws X.env)).all (·.1.isSome) = true := by rfl)
    (hks : (backToKw pos (keywordEach kws X.env)).filterMap (·.1) = ks := by rfl)
    (hdb : (x == ("__debug__" : Str)) = false := by decide)
    (hpl : ((backTo pos (starEach [] X.env)).any (·.1) || (backToKw pos (keywordEach kws X.env)).any (·.1.isNone)) = false := by rfl) :
    PE X (.Call (.Name x p) [] kws pos) (tCallN 0 ks.length sp gV E tNil tk) := by
  constructor
  intro pins s σ H Q I h
  refine wpAny_Call_Name_kw (ld_glob I hg hm ?_ hdb)
  refine PySem.W.callWith_KW0 (h₀ := X.base) I.ok.mod.kin hk hall (thn (hkw.run pos pins s σ H _ I h) ?_) hpl
  rintro ws s2 ⟨zs, H2, I2, rz, l1, l2, q2⟩
  refine ⟨I2.kIn, ?_⟩
  rw [hks]
  exact run_fnN (us := []) (vs := []) F hr hb hx I2 .nil rz l1 l2 q2
end
/-! rules as data -/
def prD (p : Str × Int) : PyData := .tuple [.str p.1, .int p.2]
def moD : Option Int → PyData
  | none => .none
  | some k => .int k
def rlD (r : Rl) : PyData := .tuple [.str "each", .int r.e, .int r.a, .tuple (r.ws.map prD), .tuple (r.gs.map prD), moD r.m]
theorem prs_dp {K : PySem.W.Frag} {H : Hp} : ∀ {vs : List V} {ps : List (Str × Int)}, Paired (PairAt H) vs ps → DpAll K H vs (ps.map prD)
  | _, _, .nil => .nil
  | _, _, .cons ⟨a, e, h⟩ r => by
    subst e
    exact .cons (.tup (SqT.of h) (.cons (.str _) (.cons (.int _) .nil))) (prs_dp r)
theorem mo_dp {K : PySem.W.Frag} {H : Hp} : ∀ m : Option Int, Dp K H (moV m) (moD m)
  | none => .non
  | some k => .int k
theorem rule_dp {K : PySem.W.Frag} {H : Hp} {v : V} {r : Rl} (h : RuleAt H v r) : Dp K H v (rlD r) := by
  obtain ⟨t, wt, gt, e, h, ⟨vs, h1, p1⟩, ⟨us, h2, p2⟩⟩ := h
  subst e
  exact .tup (SqT.of h) (.cons (.str _) (.cons (.int _) (.cons (.int _) (.cons (.tup (.inl h1.rd) (prs_dp p1)) (.cons (.tup (.inl h2.rd) (prs_dp p2)) (.cons (mo_dp _) .nil))))))
theorem rules_dp {K : PySem.W.Frag} {H : Hp} : ∀ {vs : List V} {rs : List Rl}, Paired (RuleAt H) vs rs → DpAll K H vs (rs.map rlD)
  | _, _, .nil => .nil
  | _, _, .cons h r => .cons (rule_dp h) (rules_dp r)
theorem prs_lay : ∀ {ps : List (Str × Int)}, (∀ p ∈ ps, Good p.1) → PyData.canLayAll0 (ps.map prD) = true ∧ PyData.depthAll (ps.map prD) ≤ 2
  | [], _ => ⟨by simp [PyData.canLayAll0], by simp [PyData.depthAll]⟩
  | p :: ps, h => by
    obtain ⟨h1, h2⟩ := prs_lay (ps := ps) fun q hq => h q (List.mem_cons_of_mem _ hq)
    have h3 := strOk_good (h p List.mem_cons_self)
    refine ⟨?_, ?_⟩
    · simp only [List.map_cons, PyData.canLayAll0, prD, PyData.canLay0, h1, h3, Bool.and_true]
    · simp only [List.map_cons, PyData.depthAll, prD, PyData.depth]
      omega
theorem rl_lay {r : Rl} (h : OkR r) : (rlD r).canLay0 = true ∧ (rlD r).depth ≤ 4 := by
  obtain ⟨a1, a2⟩ := prs_lay h.wg
  obtain ⟨b1, b2⟩ := prs_lay h.gg
  have e : PyData.strOk "each" = true := by decide +kernel
  refine ⟨?_, ?_⟩
  · cases hm : r.m <;> simp only [rlD, PyData.canLay0, PyData.canLayAll0, hm, moD, a1, b1, e, Bool.and_true]
  · cases hm : r.m <;> simp only [rlD, PyData.depth, PyData.depthAll, hm, moD] <;> omega
theorem rls_lay : ∀ {rs : List Rl}, (∀ r ∈ rs, OkR r) → PyData.canLayAll0 (rs.map rlD) = true ∧ PyData.depthAll (rs.map rlD) ≤ 4
  | [], _ => ⟨by simp [PyData.canLayAll0], by simp [PyData.depthAll]⟩
  | r :: rs, h => by
    obtain ⟨h1, h2⟩ := rls_lay (rs := rs) fun q hq => h q (List.mem_cons_of_mem _ hq)
    obtain ⟨a1, a2⟩ := rl_lay (h r List.mem_cons_self)
    refine ⟨?_, ?_⟩
    · simp only [List.map_cons, PyData.canLayAll0, h1, a1, Bool.and_true]
    · simp only [List.map_cons, PyData.depthAll]
      omega

/-- by one name alone -/
def kId {α : Type} : List α → List α → List α := fun _ l => l
theorem kId_rel {vs zs : List V} {us ws : List Value} (_ : Vals vs us) (h2 : Vals zs ws) : Vals (kId vs zs) (kId us ws) := h2
theorem sum_le {B : Nat} : ∀ {ys : List Str}, (∀ y ∈ ys, y.length ≤ B) → (ys.map (·.length)).sum ≤ ys.length * B
  | [], _ => Nat.zero_le _
  | y :: ys, h => by
    have h1 := h y List.mem_cons_self
    have h2 := sum_le (ys := ys) fun z hz => h z (List.mem_cons_of_mem _ hz)
    rw [List.map_cons, List.sum_cons, List.length_cons, Nat.add_mul]
    omega
theorem mk_len (l : List Nat) : (mkS l).length = l.length := by simp [mkS, Str.length]
theorem join_mk (g : Str) (ls : List (List Nat)) : Txt.join g (ls.map mkS) = mkS (TL.joinL (cL g) ls) := by
  refine str_ext ?_
  show cL _ = _
  rw [cL_join, List.map_map, show (cL ∘ mkS) = id from rfl, List.map_id]
  rfl
end Hl

set_option Elab.async false
set_option linter.all false
set_option maxRecDepth 100000
set_option maxHeartbeats 4000000
namespace Hl
open PySem PySem.Spec PyProof.Rows L2 Tk
abbrev sLp : Stmt := topS 50
abbrev sLr : Stmt := topS 51
theorem cL_c : cL "," = [44] := by decide +kernel
section
variable {P : Program} {w : World} {K : PySem.W.Frag} {mg : Str → Option Value} {base : Heap}
/-! _law_pairs_text -/
def spLp : Sp := fun vs H Q _ => ∃ (t : Addr) (ps : List (Str × Int)) (g : Str), vs = [.ref t, .str g] ∧ PairsAt H t ps ∧ PrsOk ps ∧ ps.length ≤ 3 ∧ g.length ≤ 5 ∧ ∀ H', Same H H' → Q (.str (mkS (prsL [] (cL g) (cL g) ps))) H'
abbrev nmLp : List Str := ["_law_pairs", "_law_gap", "_law_words", "_law_name", "_law_size"]
theorem scLp : FnScope nmLp ["_law_pairs", "_law_gap"] (defScope sLp) := ⟨rfl, rfl, rfl, by decide +kernel, rfl, by decide +kernel, by decide +kernel⟩
theorem ok_lp {f : Addr} {fd : FuncData} {k : Nat} (F : Fun K "_law_pairs_text" "_law_pairs_text" sLp f fd) (B : Bi mg) : FnOk P w K mg base CX0 (k + 1) f fd ["_law_pairs", "_law_gap"] spLp := by
  refine F.ok scLp (fun vs H Q E h => ?_) (fun cdv A outer s H vs Q E hr h => ?_)
  · obtain ⟨t, ps, g, rfl, _⟩ := h
    rfl
  · obtain ⟨t, ps, g, rfl, ⟨vs, tn, pr⟩, ok, l3, g5, q⟩ := h
    refine ⟨_, (pss_cons (ps_setLc (i := 2) (own := [("_law_name", 3), ("_law_size", 4)]) (g := gTup K 2 (gCons (gName 3) (gCons (gName 4) gNil))) (tt := tYes) rfl scLp.nd rfl rfl (sw_true rfl rfl rfl (by decide +kernel)) (pi_tup (pv 0)) (blkOk_by (own := [("_law_name", 3), ("_law_size", 4)]) (N := nmLp) (sc := defScope sLp) (by decide +kernel)) (fun _ _ _ _ _ => (pg_tup rfl (pgs_cons (pg_name (i := 3) scLp.nd rfl (Or.inl rfl)) (pgs_cons (pg_name (i := 4) scLp.nd rfl (Or.inl rfl)) pgs_nil)))) (fun _ _ _ _ _ => pts_nil) (fun _ _ _ _ _ => (pe_op op_add_str (pv 3) (pe_ifExp (pt_cmpR op_eq (pv 4) pe_int (nomark _)) pe_str (pe_op op_add_str (pv 1) (pe_callTy call_str_int (by rfl) B.str (by decide +kernel) (pa_cons (pv 4) pa_nil)))))))
        (pss_one (ps_ret (pe_join (pe_op op_add_str pe_str (pv 1)) (pv 2))))), ?_⟩
    have lv := pr.length
    refine ⟨_, rfl, t, rfl, ⟨_, (show SqT K H t vs from .inl tn.rd)⟩, fun D nD => ?_⟩
    have lg5 := cL_len g
    refine lc_tup (K := K) (a := t) (xs := vs) (fun i H' => Same H H' ∧ H' D = some (.lst ((((ps.map (prL (cL g))).map mkS).take i).map V.str))) ⟨same_upd nD, upd_same⟩ (fun i H' _ ⟨sm, _⟩ => same_t sm (show SqT K H t vs from .inl tn.rd)) ?_ ?_
    · rintro i x H1 hx ⟨sm, hD⟩
      obtain ⟨⟨n, m⟩, hp, a, rfl, ha⟩ := paired_get pr i x hx
      have il := (List.getElem?_eq_some_iff.mp hp).1
      have gd := (ok.good _ (List.mem_of_getElem? hp)).l6
      have m1 := ok.one _ (List.mem_of_getElem? hp)
      have m4 := ok.four _ (List.mem_of_getElem? hp)
      dsimp only at gd m1 m4 ha
      refine ⟨a, _, rfl, SqT.of (sm _ _ ha), rfl, _, _, rfl, _, _, rfl, rfl, rfl, ?_⟩
      have fin : ∀ y : Str, y = mkS (prL (cL g) (n, m)) → ∃ acc, H1 D = some (.lst acc) ∧ acc.length < sizeLine ∧ Same H (upd H1 D (.lst (acc ++ [.str y]))) ∧ (upd H1 D (.lst (acc ++ [.str y]))) D = some (.lst ((((ps.map (prL (cL g))).map mkS).take (i + 1)).map V.str)) := fun y ey => by
        refine ⟨_, hD, ?_, sm.put nD, ?_⟩
        · rw [List.length_map, List.length_take]
          exact small1000 (by omega)
        · have gi : ((ps.map (prL (cL g))).map mkS)[i]? = some y := by rw [List.getElem?_map, List.getElem?_map, hp, ey]; rfl
          rw [upd_same, List.take_add_one, gi, List.map_append]
          rfl
      have sz : ∀ j : Nat, j ≤ 1000 → j ≤ sizeLine := fun j h => Nat.le_of_lt (small1000 h)
      refine ⟨_, rfl, _, rfl, rfl, _, rfl, ite2 (fun e => ?_) (fun e => ?_)⟩
      · have e1 : m = 1 := V.int.inj (of_decide_eq_true e)
        have l0 : ("" : Str).length = 0 := by decide +kernel
        refine ⟨_, _, rfl, rfl, sz _ (by rw [l0]; omega), fin _ ?_⟩
        refine str_ext ?_
        show cL (n ++ ("" : Str)) = prL (cL g) (n, m)
        unfold prL
        rw [if_pos e1, cL_app, show cL "" = [] from by decide +kernel, List.append_nil]
      · have e1 : m ≠ 1 := fun z => e (by rw [z]; exact decide_eq_true rfl)
        have ln := (num_one (k := m) (by omega) (by omega)).1
        rw [cL_len] at ln
        have em : (nt m : Str) = (toString m : String) := rfl
        refine ⟨_, rfl, _, rfl, _, rfl, lg1920 (by omega), ?_⟩
        rw [← em]
        refine ⟨_, _, rfl, rfl, sz _ (by omega), _, _, rfl, rfl, sz _ (by rw [str_len_append]; omega), fin _ ?_⟩
        refine str_ext ?_
        show cL (n ++ (g ++ nt m)) = prL (cL g) (n, m)
        unfold prL
        rw [if_neg e1, cL_app, cL_app]
    · rintro H1 ⟨sm, hD⟩
      rw [List.take_of_length_le (by rw [List.length_map, List.length_map]; omega)] at hD
      have lc : ("," : Str).length = 1 := by decide +kernel
      refine ⟨_, rfl, _, _, rfl, rfl, Nat.le_of_lt (small1000 (by omega)), ⟨_, rfl⟩, _, rfl, _, D, (ps.map (prL (cL g))).map mkS, rfl, rfl, .inl (SqL.of hD), ?_, ?_⟩
      · have := sum_le (B := 13) (ys := (ps.map (prL (cL g))).map mkS) fun y hy => by
          obtain ⟨l, hl, rfl⟩ := List.mem_map.mp hy
          obtain ⟨p, hp, rfl⟩ := List.mem_map.mp hl
          rw [mk_len]
          exact prL_le (ok.good p hp) (ok.one p hp) (ok.four p hp) (by omega)
        rw [List.length_map, List.length_map] at this ⊢
        rw [str_len_append, lc]
        have h2 : ps.length * (1 + g.length) ≤ 3 * 6 := Nat.mul_le_mul l3 (by omega)
        omega
      · rw [join_mk, cL_app, cL_c]
        exact q H1 sm
/-! _law_rule_text -/
def spLr : Sp := fun vs H Q _ => ∃ (v : V) (r : Rl) (g : Str), vs = [v, .str g] ∧ RuleAt H v r ∧ OkR r ∧ g.length ≤ 5 ∧ ∀ H', Same H H' → Q (.str (mkS (rlL [] (cL g) (cL g) r))) H'
abbrev nmLr : List Str := ["_law_rule", "_law_gap", "_law_words"]
theorem scLr : FnScope nmLr ["_law_rule", "_law_gap"] (defScope sLr) := ⟨rfl, rfl, rfl, by decide +kernel, rfl, by decide +kernel, by decide +kernel⟩
theorem ok_lr {f fP : Addr} {fd fdP : FuncData} {k : Nat} (F : Fun K "_law_rule_text" "_law_rule_text" sLr f fd) (B : Bi mg) (Lp : Has P w K mg base k "_law_pairs_text" ["_law_pairs", "_law_gap"] spLp fP fdP) : FnOk P w K mg base CX0 (k + 1) f fd ["_law_rule", "_law_gap"] spLr := by
  refine F.ok scLr (fun vs H Q E h => ?_) (fun cdv A outer s H vs Q E hr h => ?_)
  · obtain ⟨v, r, g, rfl, _⟩ := h
    rfl
  · obtain ⟨v, r, g, rfl, ra, ok, g5, q⟩ := h
    obtain ⟨t, wt, gt, rfl, ht, pw, pg⟩ := id ra
    refine ⟨_, (Evl.pss_cut (ps_set (i := 2) scLr.nd rfl (.inl rfl) (pe_op op_cat (pe_lst (pa_cons (pe_ix ix_tup (pv 0) pe_int (fun _ _ => rfl)) (pa_cons (pe_callTy call_str_int (by rfl) B.str (by decide +kernel) (pa_cons (pe_ix ix_tup (pv 0) pe_int (fun _ _ => rfl)) pa_nil)) pa_nil))) (pe_ifExp (pt_cmpR op_gt (pe_ix ix_tup (pv 0) pe_int (fun _ _ => rfl)) pe_int (nomark _)) (pe_lst (pa_cons pe_str (pa_cons (pe_callTy call_str_int (by rfl) B.str (by decide +kernel) (pa_cons (pe_ix ix_tup (pv 0) pe_int (fun _ _ => rfl)) pa_nil)) pa_nil))) (pe_lst pa_nil))))
        (Evl.pss_cut (ps_set (i := 2) scLr.nd rfl (.inl rfl) (pe_op op_cat (pv 2) (pe_lst (pa_cons pe_str (pa_cons (pe_call Lp.G hr (by rfl) Lp.g Lp.kp Lp.b .nil pass0 (pa_cons (pe_ix ix_tup (pv 0) pe_int (fun _ _ => rfl)) (pa_cons (pv 1) pa_nil))) (pa_cons pe_str (pa_cons (pe_call Lp.G hr (by rfl) Lp.g Lp.kp Lp.b .nil pass0 (pa_cons (pe_ix ix_tup (pv 0) pe_int (fun _ _ => rfl)) (pa_cons (pv 1) pa_nil))) pa_nil)))))))
        (Evl.pss_cut (ps_set (i := 2) scLr.nd rfl (.inl rfl) (pe_op op_cat (pv 2) (pe_ifExp (pt_cmpR op_notN (pe_ix ix_tup (pv 0) pe_int (fun _ _ => rfl)) pe_non (nomark _)) (pe_lst (pa_cons pe_str (pa_cons pe_str (pa_cons (pe_callTy call_str_int (by rfl) B.str (by decide +kernel) (pa_cons (pe_ix ix_tup (pv 0) pe_int (fun _ _ => rfl)) pa_nil)) pa_nil)))) (pe_lst pa_nil))))
        (pss_one (ps_ret (pe_join (pv 1) (pv 2))))))), ?_⟩
    have ko := rlOk_of ok
    have oe := ok.oe
    have oa := ok.oa
    have em : ∀ m : Int, (nt m : Str) = (toString m : String) := fun _ => rfl
    have lg5 := cL_len g
    -- the first words
    refine ⟨fun σ' H' => ∃ u : Addr, σ' = [some (.ref t), some (.str g), some (.ref u)] ∧ Same H H' ∧ H' u = some (.lst ((("each" : Str) :: nt r.e :: (afL r.a).map mkS).map V.str)), ?_, ?_⟩
    · refine ⟨_, rfl, t, _, 0, _, rfl, rfl, SqT.of ht, atI_nat (j := 0) rfl, _, rfl, t, _, 1, _, rfl, rfl, SqT.of ht, atI_nat (j := 1) rfl, _, rfl, lg1920 (by omega), (by show 2 ≤ sizeLine; decide), fun A1 nA => ?_⟩
      have sA := same_upd (o := .lst [.str "each", .str (toString r.e : String)]) nA
      have hA : (upd H A1 (.lst [.str "each", .str (toString r.e : String)])) A1 = some (.lst [.str "each", .str (toString r.e : String)]) := upd_same
      generalize (upd H A1 (.lst [.str "each", .str (toString r.e : String)])) = H1 at *
      refine ⟨_, rfl, t, _, 2, _, rfl, rfl, SqT.of (sA _ _ ht), atI_nat (j := 2) rfl, _, _, rfl, rfl, _, rfl, ite2 (fun e => ?_) (fun e => ?_)⟩
      · have a0 : r.a ≠ 0 := by
          have : (0 : Int) < r.a := by simpa using e
          omega
        refine ⟨_, rfl, t, _, 2, _, rfl, rfl, SqT.of (sA _ _ ht), atI_nat (j := 2) rfl, _, rfl, lg1920 (by omega), (by show 2 ≤ sizeLine; decide), fun B1 nB => ?_⟩
        have sB := same_upd (o := .lst [.str "after", .str (toString r.a : String)]) nB
        refine ⟨A1, B1, _, _, rfl, rfl, sB _ _ hA, upd_same, (by show 4 ≤ sizeLine; decide), fun u nu => ?_⟩
        refine ⟨u, rfl, (sA.trans sB).trans (same_upd nu), ?_⟩
        rw [upd_same]
        unfold afL
        rw [if_neg a0]
        rfl
      · have a0 : r.a = 0 := by
          have : ¬ (0 : Int) < r.a := by simpa using e
          omega
        refine ⟨Nat.zero_le _, fun B1 nB => ?_⟩
        have sB := same_upd (o := .lst []) nB
        refine ⟨A1, B1, _, _, rfl, rfl, sB _ _ hA, upd_same, (by show 2 ≤ sizeLine; decide), fun u nu => ?_⟩
        refine ⟨u, rfl, (sA.trans sB).trans (same_upd nu), ?_⟩
        rw [upd_same]
        unfold afL
        rw [if_pos a0]
        rfl
    rintro σ' H1 ⟨u1, rfl, s1, hu1⟩
    have la : (afL r.a).length ≤ 2 := by
      unfold afL
      split <;> simp
    -- the pairs
    refine ⟨fun σ' H' => ∃ u : Addr, σ' = [some (.ref t), some (.str g), some (.ref u)] ∧ Same H H' ∧ H' u = some (.lst ((("each" : Str) :: nt r.e :: ((afL r.a).map mkS ++ [("with" : Str), mkS (prsL [] (cL g) (cL g) r.ws), ("gives" : Str), mkS (prsL [] (cL g) (cL g) r.gs)])).map V.str)), ?_, ?_⟩
    · refine ⟨_, rfl, _, rfl, t, _, 3, _, rfl, rfl, SqT.of (s1 _ _ ht), atI_nat (j := 3) rfl, _, rfl, wt, r.ws, g, rfl, pw.kp (Kp.of s1), ko.ws, ok.w3, g5, fun H2 s2 => ?_⟩
      have s12 := s1.trans s2
      refine ⟨_, rfl, t, _, 4, _, rfl, rfl, SqT.of (s12 _ _ ht), atI_nat (j := 4) rfl, _, rfl, gt, r.gs, g, rfl, pg.kp (Kp.of s12), ko.gs, ok.g3, g5, fun H3 s3 => ?_⟩
      refine ⟨(by show 4 ≤ sizeLine; decide), fun B1 nB => ?_⟩
      have sB := same_upd (o := .lst [.str "with", .str (mkS (prsL [] (cL g) (cL g) r.ws)), .str "gives", .str (mkS (prsL [] (cL g) (cL g) r.gs))]) nB
      refine ⟨u1, B1, _, _, rfl, rfl, sB _ _ (s3 _ _ (s2 _ _ hu1)), upd_same, ?_, fun u nu => ?_⟩
      · refine Nat.le_of_lt (small1000 ?_)
        simp only [List.length_map, List.length_cons, List.length_nil]
        omega
      refine ⟨u, rfl, ((s12.trans s3).trans sB).trans (same_upd nu), ?_⟩
      rw [upd_same]
      simp
    rintro σ' H2 ⟨u2, rfl, s2, hu2⟩
    -- the bound
    refine ⟨fun σ' H' => ∃ u : Addr, σ' = [some (.ref t), some (.str g), some (.ref u)] ∧ Same H H' ∧ H' u = some (.lst (((rlG [] (cL g) (cL g) r).map mkS).map V.str)), ?_, ?_⟩
    · have fin : ∀ (H3 : Hp) (B1 : Addr), Same H2 H3 → H3 B1 = some (.lst (((moL r.m).map mkS).map V.str)) → rCat (.ref u2) (.ref B1) H3 (fun v H' => ∃ u : Addr, [some (.ref t), some (.str g), some v] = [some (.ref t), some (.str g), some (.ref u)] ∧ Same H H' ∧ H' u = some (.lst (((rlG [] (cL g) (cL g) r).map mkS).map V.str))) := fun H3 B1 s3 hB => by
        have lm : (moL r.m).length ≤ 3 := by
          cases r.m <;> simp [moL]
        refine ⟨u2, B1, _, _, rfl, rfl, s3 _ _ hu2, hB, ?_, fun u nu => ?_⟩
        · refine Nat.le_of_lt (small1000 ?_)
          simp only [List.length_map, List.length_cons, List.length_append, List.length_nil]
          omega
        refine ⟨u, rfl, (s2.trans s3).trans (same_upd nu), ?_⟩
        rw [upd_same]
        unfold rlG
        have e1 : mkS (cL "each") = "each" := mk_cL _
        have e2 : mkS (cL "with") = "with" := mk_cL _
        have e3 : mkS (cL "gives") = "gives" := mk_cL _
        simp [e1, e2, e3, mk_cL]
      refine ⟨_, rfl, _, rfl, t, _, 5, _, rfl, rfl, SqT.of (s2 _ _ ht), atI_nat (j := 5) rfl, rfl, _, rfl, ?_⟩
      cases hm : r.m with
      | none =>
        rw [hm] at fin
        refine iF rfl ⟨Nat.zero_le _, fun B1 nB => ?_⟩
        exact fin _ B1 (same_upd nB) upd_same
      | some kk =>
        have om := ok.om kk hm
        rw [hm] at fin ht
        refine iT rfl ⟨_, rfl, t, _, 5, _, rfl, rfl, SqT.of (s2 _ _ ht), atI_nat (j := 5) rfl, _, rfl, lg1920 (by omega), (by show 3 ≤ sizeLine; decide), fun B1 nB => ?_⟩
        exact fin _ B1 (same_upd nB) upd_same
    rintro σ' H3 ⟨u3, rfl, s3, hu3⟩
    refine ⟨_, rfl, ⟨_, rfl⟩, _, rfl, g, u3, (rlG [] (cL g) (cL g) r).map mkS, rfl, rfl, .inl (SqL.of hu3), ?_, ?_⟩
    · have l11 := rlG_len [] (cL g) (cL g) r
      have := sum_le (B := 78) (ys := (rlG [] (cL g) (cL g) r).map mkS) fun y hy => by
        obtain ⟨l, hl, rfl⟩ := List.mem_map.mp hy
        rw [mk_len]
        exact rlG_le ok (by decide) (by omega) (by omega) l hl
      rw [List.length_map] at this ⊢
      have h2 : (rlG [] (cL g) (cL g) r).length * g.length ≤ 11 * 5 := Nat.mul_le_mul l11 g5
      omega
    · rw [join_mk]
      exact q H3 s3
end
end Hl

set_option Elab.async false
set_option linter.all false
set_option maxRecDepth 100000
set_option maxHeartbeats 4000000
/-! the law's tokens -/
namespace Hl
open PySem PySem.Spec PyProof.Rows L2 Tk
abbrev sTks : Stmt := topS 52
/-- word, place, kind -/
abbrev TK := List Nat × Nat × Nat
def stepT (fs : List TK) (a c : Nat) : List TK :=
  match fs.getLast? with
  | some l => if 0 < grp c ∧ l.2.2 = grp c ∧ l.2.1 + l.1.length = a then fs.dropLast ++ [(l.1 ++ [c], l.2.1, grp c)] else if c = 32 then fs else fs ++ [([c], a, grp c)]
  | none => if c = 32 then fs else fs ++ [([c], a, grp c)]
def foldT : List TK → Nat → List Nat → List TK
  | fs, _, [] => fs
  | fs, a, c :: s => foldT (stepT fs a c) (a + 1) s
theorem foldT_snoc : ∀ (s : List Nat) (fs : List TK) (a c : Nat), foldT fs a (s ++ [c]) = stepT (foldT fs a s) (a + s.length) c
  | [], fs, a, c => rfl
  | d :: s, fs, a, c => by
    show foldT (stepT fs a d) (a + 1) (s ++ [c]) = _
    rw [foldT_snoc s]
    show _ = stepT (foldT (stepT fs a d) (a + 1) s) (a + (s.length + 1)) c
    rw [show a + 1 + s.length = a + (s.length + 1) by omega]
def gk : List Nat → Nat
  | [] => 0
  | c :: _ => grp c
def tkOf (p : Nat × List Nat) : TK := (p.2, p.1, gk p.2)
theorem run_cons {g c : Nat} {s : List Nat} (hg : g ≠ 0) : run g (c :: s) = if grp c = g then run g s + 1 else 0 := by
  unfold Tk.run
  rw [if_neg hg, if_neg hg, List.takeWhile_cons]
  by_cases h : grp c = g
  · rw [if_pos h, if_pos (by simp [h])]
    rfl
  · rw [if_neg h, if_neg (by simpa using h)]
    rfl
theorem step_merge {fs : List TK} {w : List Nat} {a at' g c : Nat} (hg : g ≠ 0) (hc : grp c = g) (h : a + w.length = at') : stepT (fs ++ [(w, a, g)]) at' c = fs ++ [(w ++ [c], a, g)] := by
  unfold stepT
  rw [List.getLast?_append, List.getLast?_singleton]
  dsimp only [Option.some_or]
  rw [if_pos ⟨by omega, hc.symm, h⟩, List.dropLast_concat, hc]
theorem fold_run {g : Nat} (hg : g ≠ 0) : ∀ (s w : List Nat) (fs : List TK) (a at' : Nat), a + w.length = at' → foldT (fs ++ [(w, a, g)]) at' s = foldT (fs ++ [(w ++ s.take (run g s), a, g)]) (at' + run g s) (s.drop (run g s))
  | [], w, fs, a, at', h => by
    have : run g [] = 0 := by unfold Tk.run; rw [if_neg hg]; rfl
    rw [this, List.take_zero, List.append_nil, List.drop_zero]
    rfl
  | c :: s, w, fs, a, at', h => by
    rw [run_cons hg]
    by_cases e : grp c = g
    · rw [if_pos e]
      show foldT (stepT (fs ++ [(w, a, g)]) at' c) (at' + 1) s = _
      rw [step_merge hg e h, fold_run hg s (w ++ [c]) fs a (at' + 1) (by rw [List.length_append]; show a + (w.length + 1) = _; omega)]
      rw [List.take_succ_cons, List.drop_succ_cons, show at' + 1 + run g s = at' + (run g s + 1) by omega, List.append_assoc]
      rfl
    · rw [if_neg e, List.take_zero, List.append_nil, List.drop_zero]
      rfl
/-- the token that came last does not go on -/
def NoMg (fs : List TK) (at' : Nat) (s : List Nat) : Prop := ∀ l, fs.getLast? = some l → l.2.1 + l.1.length ≤ at' ∧ ∀ c r, s = c :: r → ¬ (0 < grp c ∧ l.2.2 = grp c ∧ l.2.1 + l.1.length = at')
theorem step_new {fs : List TK} {at' c : Nat} {r : List Nat} (h : NoMg fs at' (c :: r)) : stepT fs at' c = if c = 32 then fs else fs ++ [([c], at', grp c)] := by
  unfold stepT
  cases e : fs.getLast? with
  | none => rfl
  | some l =>
    dsimp only
    rw [if_neg ((h l e).2 c r rfl)]
theorem run_stop {g : Nat} (hg : g ≠ 0) : ∀ (s : List Nat) (c : Nat) (r : List Nat), s.drop (run g s) = c :: r → grp c ≠ g
  | [], c, r, h => by simp at h
  | d :: s, c, r, h => by
    rw [run_cons hg] at h
    by_cases e : grp d = g
    · rw [if_pos e, List.drop_succ_cons] at h
      exact run_stop hg s c r h
    · rw [if_neg e, List.drop_zero] at h
      cases h
      exact e
theorem fold_pcs : ∀ (n at' : Nat) (s : List Nat) (fs : List TK), s.length ≤ n → NoMg fs at' s → foldT fs at' s ++ [([], at' + s.length, 0)] = fs ++ (pcs n at' s).map tkOf
  | 0, at', s, fs, h, _ => by
    obtain rfl := List.length_eq_zero_iff.mp (Nat.le_zero.mp h)
    rfl
  | n + 1, at', [], fs, _, _ => rfl
  | n + 1, at', c :: s, fs, h, nm => by
    have hs : s.length ≤ n := by simpa using h
    have rl := run_le (grp c) s
    show foldT (stepT fs at' c) (at' + 1) s ++ [([], at' + (s.length + 1), 0)] = fs ++ (if c = 32 then pcs n (at' + 1 + run (grp c) s) (s.drop (run (grp c) s)) else (at', c :: s.take (run (grp c) s)) :: pcs n (at' + 1 + run (grp c) s) (s.drop (run (grp c) s))).map tkOf
    rw [step_new nm]
    by_cases e : c = 32
    · subst e
      have g0 : grp 32 = 0 := rfl
      have r0 : run 0 s = 0 := rfl
      rw [if_pos rfl, if_pos rfl, g0, r0, List.drop_zero]
      have := fold_pcs n (at' + 1) s fs hs (fun l hl => ⟨by have := (nm l hl).1; omega, fun c r _ z => by have := (nm l hl).1; omega⟩)
      rw [show at' + 1 + s.length = at' + (s.length + 1) by omega] at this
      exact this
    rw [if_neg e, if_neg e, List.map_cons]
    have tk : tkOf (at', c :: s.take (run (grp c) s)) = (c :: s.take (run (grp c) s), at', grp c) := rfl
    rw [tk]
    by_cases g0 : grp c = 0
    · have r0 : run (grp c) s = 0 := by rw [g0]; rfl
      rw [r0, List.drop_zero, List.take_zero, g0]
      have := fold_pcs n (at' + 1) s (fs ++ [([c], at', 0)]) hs (fun l hl => by
        rw [List.getLast?_append, List.getLast?_singleton] at hl
        cases Option.some.inj hl
        exact ⟨Nat.le_refl _, fun d r _ z => by have z1 := z.1; have z2 : 0 = grp d := z.2.1; omega⟩)
      rw [show at' + 1 + s.length = at' + (s.length + 1) by omega, List.append_assoc] at this
      exact this
    · have e2 := fold_run g0 s [c] fs at' (at' + 1) rfl
      rw [e2]
      have := fold_pcs n (at' + 1 + run (grp c) s) (s.drop (run (grp c) s)) (fs ++ [([c] ++ s.take (run (grp c) s), at', grp c)]) (by rw [List.length_drop]; omega) (fun l hl => by
        rw [List.getLast?_append, List.getLast?_singleton] at hl
        cases Option.some.inj hl
        refine ⟨by show at' + ([c] ++ s.take (run (grp c) s)).length ≤ _; rw [List.length_append, List.length_take]; show at' + (1 + _) ≤ _; omega, fun d r hd z => run_stop g0 s d r hd z.2.1.symm⟩)
      rw [List.length_drop, show at' + 1 + run (grp c) s + (s.length - run (grp c) s) = at' + (s.length + 1) by omega, List.append_assoc] at this
      exact this
def gkS (w : Str) : Nat := gk w.cps.toList
/-- a token of the law's -/
def TkAt (H : Hp) (v : V) (t : Tok) : Prop := ∃ a, v = .ref a ∧ H a = some (.tup [.str t.2, .int (t.1 : Nat), .int (gkS t.2 : Nat)])
theorem TkAt.same {H H' : Hp} {v : V} {t : Tok} (s : Same H H') (h : TkAt H v t) : TkAt H' v t := let ⟨a, e, h⟩ := h; ⟨a, e, s _ _ h⟩
def TKA (H : Hp) (v : V) (t : TK) : Prop := ∃ a, v = .ref a ∧ H a = some (.tup [.str (mkS t.1), .int (t.2.1 : Nat), .int (t.2.2 : Nat)])
theorem TKA.same {H H' : Hp} {v : V} {t : TK} (s : Same H H') (h : TKA H v t) : TKA H' v t := let ⟨a, e, h⟩ := h; ⟨a, e, s _ _ h⟩
theorem fold_toks (z : Str) : foldT [] 0 z.cps.toList ++ [([], z.length, 0)] = (pcs z.length 0 z.cps.toList).map tkOf := by
  have hl : z.cps.toList.length = z.length := by simp [Str.length]
  have := fold_pcs z.length 0 z.cps.toList [] (by omega) (fun l h => by cases h)
  rw [hl, Nat.zero_add, List.nil_append] at this
  exact this
theorem paired_mapR {α β γ : Type} {R : α → β → Prop} {f : γ → β} : ∀ {xs : List α} {ys : List γ}, Paired R xs (ys.map f) → Paired (fun x y => R x (f y)) xs ys
  | _, [], h => by cases h; exact .nil
  | _, y :: ys, h => by
    cases h with
    | cons a b => exact .cons a (paired_mapR b)
theorem paired_mapT {α β γ : Type} {R : α → β → Prop} {f : γ → β} : ∀ {xs : List α} {ys : List γ}, Paired (fun x y => R x (f y)) xs ys → Paired R xs (ys.map f)
  | _, [], h => by cases h; exact .nil
  | _, y :: ys, h => by
    cases h with
    | cons a b => exact .cons a (paired_mapT b)
theorem tka_toks {H : Hp} {vs : List V} {z : Str} (h : Paired (TKA H) vs (foldT [] 0 z.cps.toList ++ [([], z.length, 0)])) : Paired (TkAt H) vs (toks z) := by
  rw [fold_toks] at h
  unfold toks
  have h2 := paired_mapR h
  exact paired_mapT (paired_mono (fun v t ht => ht) h2)
section
variable {P : Program} {w : World} {K : PySem.W.Frag} {mg : Str → Option Value} {base : Heap}
end
end Hl

set_option Elab.async false
set_option linter.all false
set_option maxRecDepth 100000
set_option maxHeartbeats 4000000
/-! _law_tokens -/
namespace Hl
open PySem PySem.Spec PyProof.Rows L2 Tk
theorem dig_all : ((List.range 128).all fun c => Txt.isdigit ⟨#[c]⟩ == decide (grp c = 1)) = true := by decide +kernel
theorem dig_one {c : Nat} (h : c < 128) : Txt.isdigit ⟨#[c]⟩ = decide (grp c = 1) := beq_iff_eq.mp (List.all_eq_true.mp dig_all c (List.mem_range.mpr h))
theorem TKA.put {H : Hp} {D : Addr} {us ws : List V} {v : V} {t : TK} (hD : H D = some (.lst us)) (h : TKA H v t) : TKA (upd H D (.lst ws)) v t := by
  obtain ⟨a, e, ha⟩ := h
  exact ⟨a, e, by rw [upd_ne (fun z => by rw [z, hD] at ha; cases ha)]; exact ha⟩
theorem paired_lastT {α β : Type} {R : α → β → Prop} {xs : List α} {ys : List β} (h : Paired R xs ys) {y : β} (hy : ys.getLast? = some y) : ∃ xs0 x ys0, xs = xs0 ++ [x] ∧ ys = ys0 ++ [y] ∧ Paired R xs0 ys0 ∧ R x y := by
  induction h with
  | nil => cases hy
  | @cons a b as bs r p ih =>
    cases bs with
    | nil =>
      cases p
      cases Option.some.inj hy
      exact ⟨[], a, [], rfl, rfl, .nil, r⟩
    | cons b2 bs =>
      rw [List.getLast?_cons_cons] at hy
      obtain ⟨xs0, x, ys0, e1, e2, p0, r0⟩ := ih hy
      exact ⟨a :: xs0, x, b :: ys0, by rw [e1]; rfl, by rw [e2]; rfl, .cons r p0, r0⟩
theorem step_new' {fs : List TK} {a c : Nat} (h : ∀ l, fs.getLast? = some l → ¬ (0 < grp c ∧ l.2.2 = grp c ∧ l.2.1 + l.1.length = a)) : stepT fs a c = if c = 32 then fs else fs ++ [([c], a, grp c)] := by
  unfold stepT
  cases e : fs.getLast? with
  | none => rfl
  | some l =>
    dsimp only
    rw [if_neg (h l e)]
theorem cp_sp : (" " : Str).cps.toList = [32] := by decide +kernel
theorem sgn_ne {c : Nat} (h : c ≠ 32) : (decide (V.str ⟨#[c]⟩ = V.str " ")) = false := decide_eq_false fun z => h (by
  have z := V.str.inj z
  have z2 : (⟨#[c]⟩ : Str).cps.toList = (" " : Str).cps.toList := congrArg (fun s : Str => s.cps.toList) z
  rw [cp_sp] at z2
  exact (List.cons.inj z2).1)
theorem mkS_app (a b : List Nat) : mkS a ++ mkS b = mkS (a ++ b) := str_ext (cL_app (mkS a) (mkS b))
theorem ixN_last {α : Type} (xs : List α) (v : α) : ixN (xs ++ [v]).length (-1) = some xs.length := by
  have hl : (xs ++ [v]).length = xs.length + 1 := by simp
  unfold ixN
  rw [hl, if_neg (by decide), if_pos (by omega)]
  congr 1
  omega
theorem mkS_len (l : List Nat) : (mkS l).length = l.length := by
  show l.toArray.size = l.length
  simp
theorem step_len (fs : List TK) (a c : Nat) : (stepT fs a c).length ≤ fs.length + 1 := by
  unfold stepT
  split
  · split
    · rw [List.length_append, List.length_dropLast]
      show fs.length - 1 + 1 ≤ _
      omega
    · split
      · omega
      · rw [List.length_append]; exact Nat.le_refl _
  · split
    · omega
    · rw [List.length_append]; exact Nat.le_refl _
theorem fold_len (s : List Nat) : ∀ (fs : List TK) (a : Nat), (foldT fs a s).length ≤ fs.length + s.length := by
  induction s with
  | nil => exact fun _ _ => Nat.le_refl _
  | cons c s ih =>
    intro fs a
    have := ih (stepT fs a c) (a + 1)
    have := step_len fs a c
    show (foldT (stepT fs a c) (a + 1) s).length ≤ fs.length + (s.length + 1)
    omega
theorem fold_le : ∀ (s : List Nat) (fs : List TK) (a : Nat), (∀ l, fs.getLast? = some l → l.2.1 + l.1.length ≤ a) → ∀ l, (foldT fs a s).getLast? = some l → l.2.1 + l.1.length ≤ a + s.length
  | [], fs, a, h, l, hl => h l hl
  | c :: s, fs, a, h, l, hl => by
    have := fold_le s (stepT fs a c) (a + 1) (fun l hl => by
      unfold stepT at hl
      split at hl
      · rename_i l0 e0
        split at hl
        · rename_i z
          rw [List.getLast?_append, List.getLast?_singleton] at hl
          cases Option.some.inj hl
          show l0.2.1 + (l0.1 ++ [c]).length ≤ a + 1
          rw [List.length_append]
          show l0.2.1 + (l0.1.length + 1) ≤ a + 1
          omega
        · split at hl
          · have := h l hl; omega
          · rw [List.getLast?_append, List.getLast?_singleton] at hl
            cases Option.some.inj hl
            exact Nat.le_refl _
      · split at hl
        · have := h l hl; omega
        · rw [List.getLast?_append, List.getLast?_singleton] at hl
          cases Option.some.inj hl
          exact Nat.le_refl _) l hl
    rw [List.length_cons]
    omega
section
variable {P : Program} {w : World} {K : PySem.W.Frag} {mg : Str → Option Value} {base : Heap}
def spTks : Sp := fun vs H Q _ => ∃ z : Str, vs = [.str z] ∧ z.length ≤ 900000 ∧ (∀ c ∈ z.cps.toList, c < 128) ∧ ∀ (H' : Hp) (q : Addr) (us : List V), Same H H' → H q = none → H' q = some (.lst us) → Paired (TkAt H') us (toks z) → Q (.ref q) H'
abbrev nmTks : List Str := ["_law_text", "_law_found", "_law_at", "_law_sign", "_law_kind"]
theorem scTks : FnScope nmTks ["_law_text"] (defScope sTks) := ⟨rfl, rfl, rfl, by decide +kernel, rfl, by decide +kernel, by decide +kernel⟩
theorem ok_tks {f : Addr} {fd : FuncData} {k : Nat} (F : Fun K "_law_tokens" "_law_tokens" sTks f fd) (B : Bi mg) : FnOk P w K mg base CX0 (k + 1) f fd ["_law_text"] spTks := by
  refine F.ok scTks (fun vs H Q E h => ?_) (fun cdv A outer s H vs Q E hr h => ?_)
  · obtain ⟨z, rfl, _⟩ := h
    rfl
  · obtain ⟨z, rfl, hl, asc, q⟩ := h
    refine ⟨_, (pss_cons (ps_set (i := 1) scTks.nd rfl (.inl rfl) (pe_lst pa_nil))
        (pss_cons (ps_for PassesOwn.never rfl (pi_range1 (by rfl) B.rng (pa_cons (pe_callB call_len_str (by rfl) B.len PySem.boot_len (pa_cons (pv 0) pa_nil)) pa_nil)) (pg_name (i := 2) scTks.nd rfl (.inl rfl))
          (pss_cons (ps_set (i := 3) scTks.nd rfl (.inl rfl) (pe_ix ix_str (pv 0) (pv 2) (fun _ _ => rfl)))
        (Evl.pss_cut (ps_set (i := 4) scTks.nd rfl (.inl rfl) (pe_ifExp (pt_val (pe_m0 PySem.F.slot_str_isdigit PySem.F.type_str_isdigit mt_isdigit (pv 3))) pe_int (pe_ifExp (pt_chain op_le_str op_le_str pe_str (pv 3) pe_str) pe_int pe_int)))
        (pss_one (ps_if (PW.pt (pw_and (pt_cmpR (op_neLn hr.units) (pv 1) (pe_lst pa_nil) (nomark _)) (pw_and (pt_cmpR op_gt (pv 4) pe_int (nomark _)) (pw_and (pt_cmpR op_eq (pe_ix ix_tup (pe_ix ix_list (pv 1) (pe_un un_neg pe_int) (fun _ _ => rfl)) pe_int (fun _ _ => rfl)) (pv 4) (nomark _)) (pw_and1 (pt_cmpR op_eq (pe_op op_add (pe_ix ix_tup (pe_ix ix_list (pv 1) (pe_un un_neg pe_int) (fun _ _ => rfl)) pe_int (fun _ _ => rfl)) (pe_callB call_len_str (by rfl) B.len PySem.boot_len (pa_cons (pe_ix ix_tup (pe_ix ix_list (pv 1) (pe_un un_neg pe_int) (fun _ _ => rfl)) pe_int (fun _ _ => rfl)) pa_nil))) (pv 2) (nomark _))))))) (pss_one (ps_asg (pe_tup (pa_cons (pe_op op_add_str (pe_ix ix_tup (pe_ix ix_list (pv 1) (pe_un un_neg pe_int) (fun _ _ => rfl)) pe_int (fun _ _ => rfl)) (pv 3)) (pa_cons (pe_ix ix_tup (pe_ix ix_list (pv 1) (pe_un un_neg pe_int) (fun _ _ => rfl)) pe_int (fun _ _ => rfl)) (pa_cons (pv 4) pa_nil)))) (pg_sub (pv 1) (pe_un un_neg pe_int) set_list))) (pss_one (ps_if (pt_cmpR op_ne (pv 3) pe_str (nomark _)) (pss_one (ps_expr (pe_bm PySem.F.plainAttrs_list PySem.F.slot_list_append PySem.F.type_list_append mt_append (pv 1) (pa_cons (pe_tup (pa_cons (pv 3) (pa_cons (pv 2) (pa_cons (pv 4) pa_nil)))) pa_nil)))) pss_nil)))))))
        (pss_one (ps_ret (pe_op op_cat (pv 1) (pe_lst (pa_cons (pe_tup (pa_cons pe_str (pa_cons (pe_callB call_len_str (by rfl) B.len PySem.boot_len (pa_cons (pv 0) pa_nil)) (pa_cons pe_int pa_nil)))) pa_nil))))))), ?_⟩
    have hz : z.length ≤ sizeLine := Nat.le_trans hl (by decide)
    have lz : z.cps.toList.length = z.length := by simp [Str.length]
    refine ⟨Nat.zero_le _, fun D nD => ?_⟩
    refine ⟨_, rfl, z, rfl, hz, _, rfl, by omega, by (have : (z.length : Int) ≤ 900000 := by omega); omega, for_range (lo := 0) (n := z.length) (fun j σ H' => ∃ (v2 v3 v4 : Option V) (us : List V), σ = [some (.str z), some (.ref D), v2, v3, v4] ∧ Same H H' ∧ H' D = some (.lst us) ∧ Paired (TKA H') us (foldT [] 0 (z.cps.toList.take j))) ⟨none, none, none, [], rfl, same_upd nD, upd_same, .nil⟩ ?_ ?_⟩
    · rintro j σ H1 hj ⟨v2, v3, v4, us, rfl, s1, hD, pr⟩
      obtain ⟨c, hc⟩ : ∃ c, z.cps.toList[j]? = some c := ⟨_, List.getElem?_eq_getElem (by omega)⟩
      have c128 := asc c (List.mem_of_getElem? hc)
      have dg := dig_one c128
      have e1 : (!decide ((⟨#[c]⟩ : Str).cps.toList < ("a" : Str).cps.toList)) = decide (97 ≤ c) := by rw [cp_a]; exact one_le
      have e2 : (!decide (("z" : Str).cps.toList < (⟨#[c]⟩ : Str).cps.toList)) = decide (c ≤ 122) := by rw [cp_z]; exact one_le
      have etk : z.cps.toList.take (j + 1) = z.cps.toList.take j ++ [c] := by rw [List.take_add_one, hc]; rfl
      have ltk : (z.cps.toList.take j).length = j := by rw [List.length_take]; omega
      refine ⟨_, rfl, _, rfl, z, _, c, rfl, rfl, hz, (by rw [Int.zero_add]; exact atI_nat hc), ?_⟩
      refine ⟨fun σ' H' => σ' = [some (.str z), some (.ref D), some (.int (0 + (j : Int))), some (.str ⟨#[c]⟩), some (.int (grp c : Nat))] ∧ H1 = H', ?_, ?_⟩
      · refine ⟨_, rfl, ⟨_, rfl⟩, ⟨#[c]⟩, rfl, rfl, trivial, _, rfl, ?_⟩
        rw [dg]
        by_cases g1 : grp c = 1
        · exact iT (decide_eq_true g1) ⟨by rw [g1]; rfl, rfl⟩
        refine iF (decide_eq_false g1) ?_
        refine ⟨_, rfl, _, _, rfl, rfl, _, rfl, ?_⟩
        by_cases h1 : 97 ≤ c
        rotate_left
        · have g0 : grp c = 0 := by
            unfold grp at g1 ⊢
            rw [if_neg (fun z => h1 z.1)] at g1 ⊢
            split at g1
            · exact absurd rfl g1
            · rename_i z2; rw [if_neg z2]
          exact iF (by rw [e1]; exact decide_eq_false h1) ⟨_, rfl, iF rfl ⟨by rw [g0]; rfl, rfl⟩⟩
        refine iT (by rw [e1]; exact decide_eq_true h1) ⟨_, _, rfl, rfl, _, rfl, ?_⟩
        by_cases h2 : c ≤ 122
        · have g2 : grp c = 2 := by unfold grp; rw [if_pos ⟨h1, h2⟩]
          exact iT (by rw [e2]; exact decide_eq_true h2) ⟨by rw [g2]; rfl, rfl⟩
        · have g0 : grp c = 0 := by
            unfold grp
            rw [if_neg (fun z => h2 z.2), if_neg (fun z => by omega)]
          exact iF (by rw [e2]; exact decide_eq_false h2) ⟨by rw [g0]; rfl, rfl⟩
      rintro σ' H' ⟨rfl, rfl⟩
      have lu := pr.length
      have lf := fold_len (z.cps.toList.take j) [] 0
      rw [ltk] at lf
      have lf : (foldT [] 0 (z.cps.toList.take j)).length ≤ j := by simpa using lf
      have estep : foldT [] 0 (z.cps.toList.take (j + 1)) = stepT (foldT [] 0 (z.cps.toList.take j)) j c := by rw [etk, foldT_snoc, ltk, Nat.zero_add]
      have fle := fold_le (z.cps.toList.take j) [] 0 (fun l h => by cases h)
      rw [ltk, Nat.zero_add] at fle
      rw [estep]
      generalize foldT [] 0 (z.cps.toList.take j) = fs at *
      refine ⟨_, rfl, Nat.zero_le _, fun E nE => ?_⟩
      have sE := same_upd (o := .lst []) nE
      have hE : (upd H1 E (.lst [])) E = some (.lst ([] : List V)) := upd_same
      generalize upd H1 E (.lst []) = H2 at *
      cases el : fs.getLast? with
      | none =>
        have f0 : fs = [] := List.getLast?_eq_none_iff.mp el
        subst f0
        cases pr
        refine .inr ⟨.list [], .list [], .lst (SqL.of (sE _ _ hD)) .nil, .lst (SqL.of hE) .nil, rfl, rfl, _, rfl, iF (by decide +kernel) (iF rfl ?_)⟩
        have pr : Paired (TKA H1) [] [] := .nil
        have lu : ([] : List V).length = ([] : List TK).length := rfl
        have es := step_new' (fs := []) (a := j) (c := c) (fun l h => by cases h)
        refine ⟨_, rfl, rfl, _, rfl, ?_⟩
        by_cases e32 : c = 32
        · rw [if_pos e32] at es
          refine iF (by rw [e32]; decide +kernel) ⟨_, _, _, [], rfl, s1.trans sE, sE _ _ hD, ?_⟩
          rw [es]
          exact paired_mono (fun _ _ => TKA.same sE) pr
        · rw [if_neg e32] at es
          refine iT (by rw [sgn_ne e32]; rfl) ?_
          refine ⟨_, rfl, .inl ⟨rfl, _, Or.inl (Or.inl (sE _ _ hD))⟩, _, rfl, _, rfl, _, rfl, (by show 3 ≤ sizeLine; decide), fun T nT => ?_⟩
          have sT := same_upd (o := .tup [.str ⟨#[c]⟩, .int (0 + (j : Int)), .int (grp c : Nat)]) nT
          have hD3 := sT _ _ (sE _ _ hD)
          have nTD : T ≠ D := ne_of_fresh (sE _ _ hD) nT
          refine ⟨D, [], _, rfl, rfl, hD3, Nat.lt_of_le_of_lt (by rw [lu]; exact lf) (by omega), _, _, _, [] ++ [.ref T], rfl, ((s1.trans sE).trans sT).put nD, upd_same, ?_⟩
          rw [es]
          refine paired_snoc (paired_mono (fun _ _ h => ((h.same sE).same sT).put hD3) pr) ⟨T, rfl, ?_⟩
          rw [upd_ne nTD, upd_same, Int.zero_add]
          rfl
      | some l =>
        obtain ⟨us0, x, fs0, rfl, rfl, p0, a, rfl, ha⟩ := paired_lastT pr el
        obtain ⟨lw, la, lk⟩ := l
        dsimp only at ha
        have ll := fle (lw, la, lk) el
        dsimp only at ll
        have hD2 := sE _ _ hD
        have ha2 := sE _ _ ha
        refine .inl ⟨D, E, _, _, rfl, rfl, hD2, hE, (by rw [List.length_append]; show us0.length + 1 ≠ 0; omega), _, rfl, iT rfl ?_⟩
        refine ⟨_, rfl, _, _, rfl, rfl, _, rfl, ?_⟩
        by_cases g0 : 0 < grp c
        rotate_left
        · refine iF (decide_eq_false (by omega)) (iF rfl ?_)
          have es := step_new' (fs := fs0 ++ [(lw, la, lk)]) (a := j) (c := c) (fun l h z => g0 z.1)
          refine ⟨_, rfl, rfl, _, rfl, ?_⟩
          by_cases e32 : c = 32
          · rw [if_pos e32] at es
            refine iF (by rw [e32]; decide +kernel) ⟨_, _, _, us0 ++ [.ref a], rfl, s1.trans sE, sE _ _ hD, ?_⟩
            rw [es]
            exact paired_mono (fun _ _ => TKA.same sE) pr
          · rw [if_neg e32] at es
            refine iT (by rw [sgn_ne e32]; rfl) ?_
            refine ⟨_, rfl, .inl ⟨rfl, _, Or.inl (Or.inl (sE _ _ hD))⟩, _, rfl, _, rfl, _, rfl, (by show 3 ≤ sizeLine; decide), fun T nT => ?_⟩
            have sT := same_upd (o := .tup [.str ⟨#[c]⟩, .int (0 + (j : Int)), .int (grp c : Nat)]) nT
            have hD3 := sT _ _ (sE _ _ hD)
            have nTD : T ≠ D := ne_of_fresh (sE _ _ hD) nT
            refine ⟨D, us0 ++ [.ref a], _, rfl, rfl, hD3, Nat.lt_of_le_of_lt (by rw [lu]; exact lf) (by omega), _, _, _, (us0 ++ [.ref a]) ++ [.ref T], rfl, ((s1.trans sE).trans sT).put nD, upd_same, ?_⟩
            rw [es]
            refine paired_snoc (paired_mono (fun _ _ h => ((h.same sE).same sT).put hD3) pr) ⟨T, rfl, ?_⟩
            rw [upd_ne nTD, upd_same, Int.zero_add]
            rfl
        refine iT (decide_eq_true (by omega)) ?_
        refine ⟨_, rfl, _, rfl, D, _, -1, .ref a, rfl, rfl, SqL.of hD2, atI_last _ _, a, _, 2, _, rfl, rfl, SqT.of ha2, atI_nat (j := 2) rfl, _, rfl, rfl, _, rfl, ?_⟩
        by_cases gk' : lk = grp c
        rotate_left
        · refine iF (decide_eq_false (fun z => gk' (by have := V.int.inj z; omega))) (iF rfl ?_)
          have es := step_new' (fs := fs0 ++ [(lw, la, lk)]) (a := j) (c := c) (fun l h z => by rw [el] at h; cases h; exact gk' z.2.1)
          refine ⟨_, rfl, rfl, _, rfl, ?_⟩
          by_cases e32 : c = 32
          · rw [if_pos e32] at es
            refine iF (by rw [e32]; decide +kernel) ⟨_, _, _, us0 ++ [.ref a], rfl, s1.trans sE, sE _ _ hD, ?_⟩
            rw [es]
            exact paired_mono (fun _ _ => TKA.same sE) pr
          · rw [if_neg e32] at es
            refine iT (by rw [sgn_ne e32]; rfl) ?_
            refine ⟨_, rfl, .inl ⟨rfl, _, Or.inl (Or.inl (sE _ _ hD))⟩, _, rfl, _, rfl, _, rfl, (by show 3 ≤ sizeLine; decide), fun T nT => ?_⟩
            have sT := same_upd (o := .tup [.str ⟨#[c]⟩, .int (0 + (j : Int)), .int (grp c : Nat)]) nT
            have hD3 := sT _ _ (sE _ _ hD)
            have nTD : T ≠ D := ne_of_fresh (sE _ _ hD) nT
            refine ⟨D, us0 ++ [.ref a], _, rfl, rfl, hD3, Nat.lt_of_le_of_lt (by rw [lu]; exact lf) (by omega), _, _, _, (us0 ++ [.ref a]) ++ [.ref T], rfl, ((s1.trans sE).trans sT).put nD, upd_same, ?_⟩
            rw [es]
            refine paired_snoc (paired_mono (fun _ _ h => ((h.same sE).same sT).put hD3) pr) ⟨T, rfl, ?_⟩
            rw [upd_ne nTD, upd_same, Int.zero_add]
            rfl
        refine iT (decide_eq_true (by rw [gk'])) ?_
        have lwS : (mkS lw).length = lw.length := mkS_len lw
        refine ⟨_, rfl, _, rfl, D, _, -1, .ref a, rfl, rfl, SqL.of hD2, atI_last _ _, a, _, 1, _, rfl, rfl, SqT.of ha2, atI_nat (j := 1) rfl, ?_⟩
        refine ⟨_, rfl, _, rfl, D, _, -1, .ref a, rfl, rfl, SqL.of hD2, atI_last _ _, a, _, 0, _, rfl, rfl, SqT.of ha2, atI_nat (j := 0) rfl, mkS lw, rfl, by rw [lwS]; exact Nat.le_trans (show lw.length ≤ z.length by omega) hz, ?_⟩
        refine ⟨_, _, rfl, rfl, _, rfl, rfl, _, rfl, ?_⟩
        by_cases ge : la + lw.length = j
        rotate_left
        · refine iF (decide_eq_false (fun z => ge (by have z := V.int.inj z; rw [lwS] at z; omega))) ?_
          have es := step_new' (fs := fs0 ++ [(lw, la, lk)]) (a := j) (c := c) (fun l h z => by rw [el] at h; cases h; exact ge z.2.2)
          refine ⟨_, rfl, rfl, _, rfl, ?_⟩
          by_cases e32 : c = 32
          · rw [if_pos e32] at es
            refine iF (by rw [e32]; decide +kernel) ⟨_, _, _, us0 ++ [.ref a], rfl, s1.trans sE, sE _ _ hD, ?_⟩
            rw [es]
            exact paired_mono (fun _ _ => TKA.same sE) pr
          · rw [if_neg e32] at es
            refine iT (by rw [sgn_ne e32]; rfl) ?_
            refine ⟨_, rfl, .inl ⟨rfl, _, Or.inl (Or.inl (sE _ _ hD))⟩, _, rfl, _, rfl, _, rfl, (by show 3 ≤ sizeLine; decide), fun T nT => ?_⟩
            have sT := same_upd (o := .tup [.str ⟨#[c]⟩, .int (0 + (j : Int)), .int (grp c : Nat)]) nT
            have hD3 := sT _ _ (sE _ _ hD)
            have nTD : T ≠ D := ne_of_fresh (sE _ _ hD) nT
            refine ⟨D, us0 ++ [.ref a], _, rfl, rfl, hD3, Nat.lt_of_le_of_lt (by rw [lu]; exact lf) (by omega), _, _, _, (us0 ++ [.ref a]) ++ [.ref T], rfl, ((s1.trans sE).trans sT).put nD, upd_same, ?_⟩
            rw [es]
            refine paired_snoc (paired_mono (fun _ _ h => ((h.same sE).same sT).put hD3) pr) ⟨T, rfl, ?_⟩
            rw [upd_ne nTD, upd_same, Int.zero_add]
            rfl
        refine iT (decide_eq_true (congrArg V.int (show ((la : Nat) : Int) + ((mkS lw).length : Nat) = 0 + (j : Int) by rw [lwS]; omega))) ?_
        -- it goes on
        have lw9 : lw.length ≤ 900000 := by omega
        refine ⟨_, rfl, _, rfl, D, _, -1, .ref a, rfl, rfl, SqL.of hD2, atI_last _ _, a, _, 0, _, rfl, rfl, SqT.of ha2, atI_nat (j := 0) rfl, _, rfl, _, _, rfl, rfl, (by rw [lwS]; show lw.length + 1 ≤ 16777216; omega), ?_⟩
        refine ⟨_, rfl, _, rfl, D, _, -1, .ref a, rfl, rfl, SqL.of hD2, atI_last _ _, a, _, 1, _, rfl, rfl, SqT.of ha2, atI_nat (j := 1) rfl, _, rfl, (by show 3 ≤ sizeLine; decide), fun T nT => ?_⟩
        have sT := same_upd (o := .tup [.str (mkS lw ++ ⟨#[c]⟩), .int (la : Nat), .int (grp c : Nat)]) nT
        have hT : (upd H2 T (.tup [.str (mkS lw ++ ⟨#[c]⟩), .int (la : Nat), .int (grp c : Nat)])) T = some (.tup [.str (mkS (lw ++ [c])), .int (la : Nat), .int (grp c : Nat)]) := by rw [upd_same]; exact congrArg (fun s : Str => some (HO.tup [.str s, .int (la : Nat), .int (grp c : Nat)])) (mkS_app lw [c])
        have hD3 := sT _ _ hD2
        have nTD : T ≠ D := ne_of_fresh hD2 nT
        generalize upd H2 T (.tup [.str (mkS lw ++ ⟨#[c]⟩), .int (la : Nat), .int (grp c : Nat)]) = H3 at *
        refine ⟨_, rfl, _, rfl, D, _, -1, us0.length, rfl, rfl, hD3, ixN_last us0 _, ?_⟩
        have es : (us0 ++ [V.ref a]).set us0.length (.ref T) = us0 ++ [.ref T] := by rw [List.set_append_right _ _ (Nat.le_refl _), Nat.sub_self]; rfl
        rw [es]
        refine ⟨_, _, _, us0 ++ [.ref T], rfl, ((s1.trans sE).trans sT).put nD, upd_same, ?_⟩
        have est : stepT (fs0 ++ [(lw, la, lk)]) j c = fs0 ++ [(lw ++ [c], la, grp c)] := by rw [gk']; exact step_merge (by omega) rfl ge
        rw [est]
        exact paired_snoc (paired_mono (fun _ _ h => ((h.same sE).same sT).put hD3) p0) ⟨T, rfl, by rw [upd_ne nTD]; exact hT⟩
    · rintro σ H1 ⟨v2, v3, v4, us, rfl, s1, hD, pr⟩
      rw [List.take_of_length_le (by omega)] at pr
      have lu := pr.length
      have lf := fold_len z.cps.toList [] 0
      rw [lz] at lf
      have lf : (foldT [] 0 z.cps.toList).length ≤ z.length := by simpa using lf
      refine ⟨_, rfl, _, rfl, z, rfl, hz, (by show 3 ≤ sizeLine; decide), fun T nT => ?_⟩
      have sT := same_upd (o := .tup [.str "", .int (z.length : Nat), .int 0]) nT
      have hT : (upd H1 T (.tup [.str "", .int (z.length : Nat), .int 0])) T = some (.tup [.str "", .int (z.length : Nat), .int 0]) := upd_same
      generalize upd H1 T (.tup [.str "", .int (z.length : Nat), .int 0]) = H2 at *
      refine ⟨(by show 1 ≤ sizeLine; decide), fun L nL => ?_⟩
      have sL := same_upd (o := .lst [.ref T]) nL
      have hL : (upd H2 L (.lst [.ref T])) L = some (.lst [.ref T]) := upd_same
      generalize upd H2 L (.lst [.ref T]) = H3 at *
      refine ⟨D, L, _, _, rfl, rfl, sL _ _ (sT _ _ hD), hL, (by rw [lu]; show (foldT [] 0 z.cps.toList).length + 1 ≤ 16777216; omega), fun R nR => ?_⟩
      have sR := same_upd (o := .lst (us ++ [.ref T])) nR
      have sa := (sT.trans sL).trans sR
      refine q _ R _ (s1.trans sa) (s1.free ((sT.trans sL).free nR)) upd_same (tka_toks (paired_snoc (paired_mono (fun _ _ h => h.same sa) pr) ⟨T, rfl, (sL.trans sR) _ _ hT⟩))
end
end Hl

set_option Elab.async false
set_option linter.all false
set_option maxRecDepth 100000
set_option maxHeartbeats 4000000
/-! _law_number_good -/
namespace Hl
open PySem PySem.Spec PyProof.Rows L2 Tk
abbrev sNg : Stmt := topS 53
/-- a token as it comes -/
def TkW (w : Str) : Prop := (∀ c ∈ w.cps.toList, grp c = gkS w) ∧ (gkS w = 0 → w.cps.toList.length ≤ 1)
theorem run_grp {g : Nat} : ∀ (s : List Nat), ∀ c ∈ s.take (Tk.run g s), grp c = g := by
  intro s
  induction s with
  | nil => intro c h; simp at h
  | cons d s ih =>
    intro c h
    by_cases g0 : g = 0
    · have : Tk.run g (d :: s) = 0 := by unfold Tk.run; rw [if_pos g0]
      rw [this] at h; simp at h
    rw [run_cons g0] at h
    by_cases e : grp d = g
    · rw [if_pos e, List.take_succ_cons] at h
      rcases List.mem_cons.mp h with rfl | h
      · exact e
      · exact ih c h
    · rw [if_neg e] at h; simp at h
theorem pcs_tk : ∀ (n a : Nat) (s : List Nat), ∀ p ∈ pcs n a s, (∀ c ∈ p.2, grp c = gk p.2) ∧ (gk p.2 = 0 → p.2.length ≤ 1)
  | 0, a, s, p, h => by
    rw [List.mem_singleton.mp h]
    exact ⟨fun c h => (nomatch h), fun _ => Nat.zero_le _⟩
  | n + 1, a, [], p, h => by
    rw [List.mem_singleton.mp h]
    exact ⟨fun c h => (nomatch h), fun _ => Nat.zero_le _⟩
  | n + 1, a, c :: s, p, h => by
    have h : p ∈ (if c = 32 then pcs n (a + 1 + Tk.run (grp c) s) (s.drop (Tk.run (grp c) s)) else (a, c :: s.take (Tk.run (grp c) s)) :: pcs n (a + 1 + Tk.run (grp c) s) (s.drop (Tk.run (grp c) s))) := h
    split at h
    · exact pcs_tk n _ _ p h
    · rcases List.mem_cons.mp h with rfl | h
      · refine ⟨fun d hd => ?_, fun z => ?_⟩
        · rcases List.mem_cons.mp hd with rfl | hd
          · rfl
          · exact run_grp s d hd
        · have z : grp c = 0 := z
          have : Tk.run (grp c) s = 0 := by rw [z]; rfl
          show (c :: s.take (Tk.run (grp c) s)).length ≤ 1
          rw [this]
          exact Nat.le_refl _
      · exact pcs_tk n _ _ p h
theorem toks_tk {z : Str} {t : Tok} (h : t ∈ toks z) : TkW t.2 := by
  obtain ⟨p, hp, rfl⟩ := List.mem_map.mp h
  exact pcs_tk _ _ _ p hp
def num1 (l : List Nat) : Nat := l.foldl (fun n c => 10 * n + (c - 48)) 0
theorem ng_one : ((List.range 10).all fun d => decide (PySem.intText? (mkS [48 + d]) = some ((num1 [48 + d] : Nat) : Int)) && decide (mkS [48 + d] = nt ((num1 [48 + d] : Nat) : Int))) = true := by decide +kernel
theorem ng_two : ((List.range 9).all fun d => (List.range 10).all fun e => decide (PySem.intText? (mkS [49 + d, 48 + e]) = some ((num1 [49 + d, 48 + e] : Nat) : Int)) && decide (mkS [49 + d, 48 + e] = nt ((num1 [49 + d, 48 + e] : Nat) : Int))) = true := by decide +kernel
theorem nt_all : ((List.range 13).all fun n => decide (gkS (nt (n : Int)) = 1) && (decide ((nt (n : Int)).cps.toList.length ≤ 2) && !(decide (1 < (nt (n : Int)).cps.toList.length) && decide ((nt (n : Int)).cps.toList.head? = some 48)))) = true := by decide +kernel
theorem numL_mem {lo hi : Nat} {w : Str} (h : w ∈ numL lo hi) (hh : lo ≤ hi) : ∃ k : Nat, w = nt (k : Int) ∧ lo ≤ k ∧ k ≤ hi := by
  obtain ⟨i, hi', rfl⟩ := List.mem_map.mp h
  have := List.mem_range.mp hi'
  exact ⟨lo + i, by rw [Int.natCast_add], by omega, by omega⟩
theorem numL_no {lo hi : Nat} {w : Str} (hh : lo ≤ hi) (h12 : hi ≤ 12) (h : gkS w ≠ 1 ∨ 2 < w.cps.toList.length ∨ (1 < w.cps.toList.length ∧ w.cps.toList.head? = some 48)) : w ∉ numL lo hi := fun hm => by
  obtain ⟨k, rfl, k1, k2⟩ := numL_mem hm hh
  have a := List.all_eq_true.mp nt_all k (List.mem_range.mpr (by omega))
  simp only [Bool.and_eq_true, decide_eq_true_eq, Bool.not_eq_true'] at a
  obtain ⟨a1, a2, a3⟩ := a
  rcases h with h | h | ⟨h, h'⟩
  · exact h a1
  · omega
  · rw [decide_eq_true h, decide_eq_true h'] at a3
    cases a3
/-- a word of one or two figures, no needless nought -/
theorem numL_yes {lo hi : Nat} {w : Str} (hh : lo ≤ hi) (h12 : hi ≤ 12) (hd : ∀ c ∈ w.cps.toList, grp c = 1) (h1 : 1 ≤ w.cps.toList.length) (h2 : w.cps.toList.length ≤ 2) (h0 : ¬ (1 < w.cps.toList.length ∧ w.cps.toList.head? = some 48)) : ∃ n : Nat, PySem.intText? w = some (n : Int) ∧ (w ∈ numL lo hi ↔ lo ≤ n ∧ n ≤ hi) := by
  have dg : ∀ c, grp c = 1 → 48 ≤ c ∧ c ≤ 57 := fun c h => by
    unfold grp at h
    split at h
    · cases h
    · split at h
      · assumption
      · cases h
  obtain ⟨n, e1, e2⟩ : ∃ n : Nat, PySem.intText? w = some (n : Int) ∧ w = nt (n : Int) := by
    have ew := mkS_self w
    match hl : w.cps.toList, h1, h2 with
    | [c], _, _ =>
      have hc := dg c (hd c (by rw [hl]; exact List.mem_cons_self))
      have a := List.all_eq_true.mp ng_one (c - 48) (List.mem_range.mpr (by omega))
      rw [show 48 + (c - 48) = c by omega] at a
      simp only [Bool.and_eq_true, decide_eq_true_eq] at a
      rw [hl] at ew
      rw [← ew]
      exact ⟨_, a.1, a.2⟩
    | [c, d], _, _ =>
      have hc := dg c (hd c (by rw [hl]; exact List.mem_cons_self))
      have hd' := dg d (hd d (by rw [hl]; exact List.mem_cons_of_mem _ List.mem_cons_self))
      have c48 : c ≠ 48 := fun z => h0 ⟨by rw [hl]; exact Nat.le_refl _, by rw [hl, z]; rfl⟩
      have a := List.all_eq_true.mp (List.all_eq_true.mp ng_two (c - 49) (List.mem_range.mpr (by omega))) (d - 48) (List.mem_range.mpr (by omega))
      rw [show 49 + (c - 49) = c by omega, show 48 + (d - 48) = d by omega] at a
      simp only [Bool.and_eq_true, decide_eq_true_eq] at a
      rw [hl] at ew
      rw [← ew]
      exact ⟨_, a.1, a.2⟩
    | [], h1, _ => exact absurd h1 (by decide)
    | _ :: _ :: _ :: _, _, h2 => exact absurd h2 (by simp)
  refine ⟨n, e1, fun hm => ?_, fun ⟨h3, h4⟩ => ?_⟩
  · obtain ⟨k, rfl, k1, k2⟩ := numL_mem hm hh
    rw [num_int (by omega) (by omega)] at e1
    have := Option.some.inj e1
    omega
  · rw [e2]
    exact num_mem (by omega) (by omega)
theorem cp_00 : ("0" : Str).cps.toList = [48] := by decide +kernel
theorem one_str {c d : Nat} {x : Str} (hx : x.cps.toList = [d]) : decide (V.str ⟨#[c]⟩ = V.str x) = decide (c = d) := by
  by_cases h : c = d
  · rw [decide_eq_true h]
    refine decide_eq_true ?_
    rw [show (⟨#[c]⟩ : Str) = x from str_ext (by rw [hx, h])]
  · rw [decide_eq_false h]
    refine decide_eq_false fun z => h ?_
    have z2 : (⟨#[c]⟩ : Str).cps.toList = x.cps.toList := congrArg (fun s : Str => s.cps.toList) (V.str.inj z)
    rw [hx] at z2
    exact (List.cons.inj z2).1
section
variable {P : Program} {w : World} {K : PySem.W.Frag} {mg : Str → Option Value} {base : Heap}
def spNg : Sp := fun vs H Q _ => ∃ (a : Addr) (x : Str) (p lo hi : Nat), vs = [.ref a, .int (lo : Nat), .int (hi : Nat)] ∧ H a = some (.tup [.str x, .int (p : Nat), .int (gkS x : Nat)]) ∧ TkW x ∧ x.length ≤ 900000 ∧ lo ≤ hi ∧ hi ≤ 12 ∧ Q (.bl (decide (x ∈ numL lo hi))) H
abbrev nmNg : List Str := ["_law_token", "_law_low", "_law_high", "_law_word", "_law_at", "_law_kind"]
theorem scNg : FnScope nmNg ["_law_token", "_law_low", "_law_high"] (defScope sNg) := ⟨rfl, rfl, rfl, by decide +kernel, rfl, by decide +kernel, by decide +kernel⟩
theorem ok_ng {f : Addr} {fd : FuncData} {k : Nat} (F : Fun K "_law_number_good" "_law_number_good" sNg f fd) (B : Bi mg) : FnOk P w K mg base CX0 (k + 1) f fd ["_law_token", "_law_low", "_law_high"] spNg := by
  refine F.ok scNg (fun vs H Q E h => ?_) (fun cdv A outer s H vs Q E hr h => ?_)
  · obtain ⟨a, x, p, lo, hi, rfl, _⟩ := h
    rfl
  · obtain ⟨a, x, p, lo, hi, rfl, ha, tk, l9, hh, h12, q⟩ := h
    refine ⟨_, (pss_cons (ps_asg (pv 0) (pg_tup rfl (pgs_cons (pg_name (i := 3) scNg.nd rfl (.inl rfl)) (pgs_cons (pg_name (i := 4) scNg.nd rfl (.inl rfl)) (pgs_cons (pg_name (i := 5) scNg.nd rfl (.inl rfl)) pgs_nil)))))
        (Evl.pss_cut (ps_if (PW.pt (pw_or (pt_cmpR op_ne (pv 5) pe_int (nomark _)) (pw_or (pt_cmpR op_gt (pe_callB call_len_str (by rfl) B.len PySem.boot_len (pa_cons (pv 3) pa_nil)) pe_int (nomark _)) (pw_or1 (PW.pt (pw_and (pt_cmpR op_gt (pe_callB call_len_str (by rfl) B.len PySem.boot_len (pa_cons (pv 3) pa_nil)) pe_int (nomark _)) (pw_and1 (pt_cmpR op_eq (pe_ix ix_str (pv 3) pe_int (fun _ _ => rfl)) pe_str (nomark _))))))))) (pss_one (ps_ret pe_bl)) pss_nil)
        (pss_one (ps_ret (pe_chain op_le op_le (pv 1) (pe_callTy call_int_str (by rfl) B.int (by decide +kernel) (pa_cons (pv 3) pa_nil)) (pv 2)))))), ?_⟩
    have hx : x.length ≤ sizeLine := Nat.le_trans l9 (by decide)
    have lx : x.cps.toList.length = x.length := by simp [Str.length]
    refine ⟨_, rfl, a, _, rfl, SqT.of ha, rfl, _, _, rfl, _, _, rfl, _, _, rfl, rfl, ?_⟩
    have no : gkS x ≠ 1 ∨ 2 < x.cps.toList.length ∨ (1 < x.cps.toList.length ∧ x.cps.toList.head? = some 48) → Q (.bl false) H := fun h => by
      rw [decide_eq_false (numL_no hh h12 h)] at q
      exact q
    refine ⟨fun σ' H' => σ' = [some (.ref a), some (.int (lo : Nat)), some (.int (hi : Nat)), some (.str x), some (.int (p : Nat)), some (.int (gkS x : Nat))] ∧ H = H' ∧ gkS x = 1 ∧ x.length ≤ 2 ∧ ¬ (1 < x.cps.toList.length ∧ x.cps.toList.head? = some 48), ?_, ?_⟩
    · refine ⟨_, rfl, rfl, _, rfl, ?_⟩
      by_cases g1 : gkS x = 1
      rotate_left
      · exact iT (by rw [decide_eq_false (fun z => g1 (by have := V.int.inj z; omega))]; rfl) (iT rfl (no (.inl g1)))
      refine iF (by rw [decide_eq_true (congrArg V.int (show ((gkS x : Nat) : Int) = 1 by omega))]; rfl) ?_
      refine ⟨_, rfl, x, rfl, hx, _, _, rfl, rfl, _, rfl, ?_⟩
      by_cases l2 : x.length ≤ 2
      rotate_left
      · exact iT (decide_eq_true (by omega)) (iT rfl (no (.inr (.inl (by omega)))))
      refine iF (decide_eq_false (by omega)) ?_
      have l1 : 1 ≤ x.cps.toList.length := by
        cases e : x.cps.toList with
        | nil => exact absurd g1 (by unfold gkS; rw [e]; decide)
        | cons c r => exact Nat.succ_le_succ (Nat.zero_le _)
      obtain ⟨c, hc⟩ : ∃ c, x.cps.toList[0]? = some c := ⟨_, List.getElem?_eq_getElem (by omega)⟩
      have hd : x.cps.toList.head? = some c := by rw [List.head?_eq_getElem?]; exact hc
      refine ⟨_, rfl, x, rfl, hx, _, _, rfl, rfl, _, rfl, ?_⟩
      by_cases z1 : 1 < x.length
      rotate_left
      · exact iF (decide_eq_false (by omega)) (iF rfl ⟨rfl, rfl, g1, l2, fun z => z1 (by omega)⟩)
      refine iT (decide_eq_true (by omega)) ⟨_, rfl, x, _, c, rfl, rfl, hx, atI_nat (j := 0) hc, rfl, _, rfl, ?_⟩
      rw [one_str cp_00]
      by_cases c48 : c = 48
      · exact iT (decide_eq_true c48) (no (.inr (.inr ⟨by omega, by rw [hd, c48]⟩)))
      · exact iF (decide_eq_false c48) ⟨rfl, rfl, g1, l2, fun z => c48 (Option.some.inj (hd.symm.trans z.2))⟩
    rintro σ' H' ⟨rfl, rfl, g1, l2, h0⟩
    have l1 : 1 ≤ x.cps.toList.length := by
      cases e : x.cps.toList with
      | nil => exact absurd g1 (by unfold gkS; rw [e]; decide)
      | cons c r => exact Nat.succ_le_succ (Nat.zero_le _)
    obtain ⟨n, en, hn⟩ := numL_yes hh h12 (fun c hc => by rw [tk.1 c hc, g1]) l1 (by omega) h0
    refine ⟨_, rfl, _, rfl, x, _, rfl, en, by omega, _, _, rfl, rfl, _, rfl, ?_⟩
    by_cases k1 : lo ≤ n
    rotate_left
    · rw [decide_eq_false (fun z => k1 (hn.mp z).1)] at q
      exact iF (decide_eq_false (by omega)) q
    refine iT (decide_eq_true (by omega)) ⟨_, rfl, _, _, rfl, rfl, ?_⟩
    by_cases k2 : n ≤ hi
    · rw [decide_eq_true (hn.mpr ⟨k1, k2⟩)] at q
      have e : decide (((n : Nat) : Int) ≤ (hi : Nat)) = true := decide_eq_true (by omega)
      exact (congrArg (fun b => Q (.bl b) H) e).mpr q
    · rw [decide_eq_false (fun z => k2 (hn.mp z).2)] at q
      have e : decide (((n : Nat) : Int) ≤ (hi : Nat)) = false := decide_eq_false (by omega)
      exact (congrArg (fun b => Q (.bl b) H) e).mpr q
end
end Hl

set_option Elab.async false
set_option linter.all false
set_option maxRecDepth 100000
set_option maxHeartbeats 4000000
/-! _law_pairs_end -/
namespace Hl
open PySem PySem.Spec PyProof.Rows L2 Tk
abbrev sPnd : Stmt := topS 54
/-- rows of tokens -/
structure WfL (L : List Tok) : Prop where
  tk : ∀ t ∈ L, TkW t.2
  asc : ∀ t ∈ L, ∀ c ∈ t.2.cps.toList, c < 128
  len : ∀ t ∈ L, t.2.length ≤ 900000
  pl : ∀ t ∈ L, t.1 ≤ 1000000
  n : L.length ≤ 900001
theorem hd_in {ts : List Tok} (e : EndT ts) : ∃ r, ts = (hdA ts, hdW ts) :: r := by
  obtain ⟨⟨a, w⟩, r, rfl⟩ := e.some
  exact ⟨r, rfl⟩
theorem tok_at {H : Hp} {us : List V} {L : List Tok} {i : Nat} (pr : Paired (TkAt H) us L) (e : EndT (L.drop i)) : ∃ a, us[i]? = some (.ref a) ∧ H a = some (.tup [.str (hdW (L.drop i)), .int (hdA (L.drop i) : Nat), .int (gkS (hdW (L.drop i)) : Nat)]) ∧ (hdA (L.drop i), hdW (L.drop i)) ∈ L ∧ i < L.length := by
  obtain ⟨r, er⟩ := hd_in e
  have il : i < L.length := by
    by_cases h : i < L.length
    · exact h
    · rw [List.drop_eq_nil_of_le (by omega)] at er; cases er
  have hi : L[i]? = some (hdA (L.drop i), hdW (L.drop i)) := by
    have := List.getElem?_drop (xs := L) (i := i) (j := 0)
    rw [er] at this
    simpa using this.symm
  obtain ⟨v, hv, a, rfl, ha⟩ := paired_get2 pr i _ hi
  exact ⟨a, hv, ha, List.mem_of_getElem? hi, il⟩
theorem drop_tail {L : List Tok} {i : Nat} : (L.drop i).tail = L.drop (i + 1) := List.tail_drop
theorem end_next {L : List Tok} {i : Nat} (e : EndT (L.drop i)) (h : hdW (L.drop i) ≠ "") : EndT (L.drop (i + 1)) := drop_tail ▸ e.tail h
theorem dig1_all : ((List.range 128).all fun c => dig1 (mkS [c]) == decide (grp c = 1)) = true := by decide +kernel
theorem dig1_hd {c : Nat} {r : List Nat} : dig1 (mkS (c :: r)) = dig1 (mkS [c]) := by
  unfold dig1
  congr 1
theorem dig1_tk {x : Str} (asc : ∀ c ∈ x.cps.toList, c < 128) : dig1 x = decide (gkS x = 1) := by
  have e := mkS_self x
  cases hl : x.cps.toList with
  | nil =>
    rw [hl] at e
    rw [← e]
    decide +kernel
  | cons c r =>
    have a := beq_iff_eq.mp (List.all_eq_true.mp dig1_all c (List.mem_range.mpr (asc c (by rw [hl]; exact List.mem_cons_self))))
    rw [hl] at e
    rw [← e, dig1_hd, a]
    rfl
theorem name_tk {w : Str} (tk : TkW w) : nameB w = (decide (gkS w = 2) && decide (w.length ≤ 6)) := by
  have lw : w.cps.toList.length = w.length := by simp [Str.length]
  unfold nameB
  by_cases g2 : gkS w = 2
  · have h1 : 1 ≤ w.length := by
      cases e : w.cps.toList with
      | nil => exact absurd g2 (by unfold gkS; rw [e]; decide)
      | cons c r => rw [← lw, e]; exact Nat.succ_le_succ (Nat.zero_le _)
    have al : (w.cps.toList.all fun c => decide (97 ≤ c) && decide (c ≤ 122)) = true := List.all_eq_true.mpr fun c hc => by
      have g := tk.1 c hc
      rw [g2] at g
      unfold grp at g
      split at g
      · rename_i z; simp [z.1, z.2]
      · split at g <;> cases g
    rw [decide_eq_true h1, al, decide_eq_true g2, Bool.and_true]
  · rw [decide_eq_false g2, Bool.false_and]
    cases e : w.cps.toList with
    | nil => rw [show w.length = 0 by rw [← lw, e]; rfl]; rfl
    | cons c r =>
      have : (decide (97 ≤ c) && decide (c ≤ 122)) = false := by
        cases z : (decide (97 ≤ c) && decide (c ≤ 122)) with
        | false => rfl
        | true =>
          refine absurd ?_ g2
          unfold gkS
          rw [e]
          show grp c = 2
          simp only [Bool.and_eq_true, decide_eq_true_eq] at z
          unfold grp
          rw [if_pos z]
      rw [List.all_cons, this, Bool.false_and, Bool.and_false, Bool.and_false]
theorem pair_eqE {last : Str} {ts : List Tok} (e : EndT ts) : rdPair last ts = if nameOk last (hdW ts) = true then (if dig1 (hdW ts.tail) = true then (if hdW ts.tail ∈ numL 2 4 then .ok ((hdW ts, (PySem.intText? (hdW ts.tail)).getD 0), ts.tail.tail) else .error (hdA ts.tail)) else .ok ((hdW ts, 1), ts.tail)) else .error (hdA ts) := by
  unfold rdPair
  rw [name_eq e]
  by_cases h : nameOk last (hdW ts) = true
  · rw [if_pos h, if_pos h]
    dsimp only
    by_cases d : dig1 (hdW ts.tail) = true
    · rw [if_pos d, if_pos d, num_eq (e.tail (nameOk_ne h))]
      by_cases n : hdW ts.tail ∈ numL 2 4
      · rw [if_pos n, if_pos n]
      · rw [if_neg n, if_neg n]
    · rw [if_neg d, if_neg d]
  · rw [if_neg h, if_neg h]
theorem pair_end {last : Str} {ts ts2 : List Tok} {p : Str × Int} (e : EndT ts) (h : rdPair last ts = .ok (p, ts2)) : EndT ts2 ∧ ts2.length < ts.length := by
  rw [pair_eqE e] at h
  obtain ⟨r, er⟩ := hd_in e
  split at h
  · rename_i n
    have e1 := e.tail (nameOk_ne n)
    have l1 : ts.tail.length < ts.length := by rw [er]; exact Nat.lt_succ_self _
    split at h
    · split at h
      · rename_i m
        cases h
        have ne : hdW ts.tail ≠ "" := fun z => numL_ne (lo := 2) (hi := 4) (by decide) (z ▸ m)
        refine ⟨e1.tail ne, ?_⟩
        have := List.length_tail (l := ts.tail)
        omega
      · cases h
    · cases h
      exact ⟨e1, l1⟩
  · cases h
theorem more_mono : ∀ (n m : Nat) (ps : List (Str × Int)) (ts : List Tok), EndT ts → ts.length ≤ n → ts.length ≤ m → rdMoreP n ps ts = rdMoreP m ps ts
  | 0, m, ps, ts, e, h, _ => by
    obtain ⟨t, r, rfl⟩ := e.some
    exact absurd h (by simp)
  | n + 1, 0, ps, ts, e, _, h => by
    obtain ⟨t, r, rfl⟩ := e.some
    exact absurd h (by simp)
  | n + 1, m + 1, ps, ts, e, h1, h2 => by
    show ((if hdW ts = "," then (match rdPair ((ps.getLast?.map (·.1)).getD "") ts.tail with | .error e => .error e | .ok (p, ts2) => rdMoreP n (ps ++ [p]) ts2) else .ok (ps, ts)) : Rd (List (Str × Int))) = (if hdW ts = "," then (match rdPair ((ps.getLast?.map (·.1)).getD "") ts.tail with | .error e => .error e | .ok (p, ts2) => rdMoreP m (ps ++ [p]) ts2) else .ok (ps, ts))
    by_cases c : hdW ts = ","
    · rw [if_pos c, if_pos c]
      have et := e.tail (by rw [c]; decide +kernel)
      cases r : rdPair ((ps.getLast?.map (·.1)).getD "") ts.tail with
      | error x => rfl
      | ok q =>
        obtain ⟨p, ts2⟩ := q
        obtain ⟨e2, l2⟩ := pair_end et r
        have lt := List.length_tail (l := ts)
        obtain ⟨rr, er⟩ := hd_in e
        have l0 : 1 ≤ ts.length := by rw [er]; exact Nat.succ_le_succ (Nat.zero_le _)
        exact more_mono n m _ _ e2 (by omega) (by omega)
    · rw [if_neg c, if_neg c]
theorem numL_yes_len {lo hi : Nat} {w : Str} (h : w ∈ numL lo hi) (hh : lo ≤ hi := by decide) (h12 : hi ≤ 12 := by decide) : w.length ≤ 2 := by
  obtain ⟨k, rfl, k1, k2⟩ := numL_mem h hh
  have a := List.all_eq_true.mp nt_all k (List.mem_range.mpr (by omega))
  simp only [Bool.and_eq_true, decide_eq_true_eq] at a
  have := a.2.1
  have e : (nt (k : Int)).cps.toList.length = (nt (k : Int)).length := by simp [Str.length]
  omega
/-- what is read when a pair comes next -/
def rdLoop (n : Nat) (done : List (Str × Int)) (last : Str) (ts : List Tok) : Rd (List (Str × Int)) :=
  match rdPair last ts with
  | .error e => .error e
  | .ok (p, ts1) => rdMoreP n (done ++ [p]) ts1
theorem loop_start {ts : List Tok} (e : EndT ts) : rdPairs ts = rdLoop ts.length [] "" ts := by
  unfold rdPairs rdLoop
  cases r : rdPair "" ts with
  | error x => rfl
  | ok q =>
    obtain ⟨p, ts1⟩ := q
    obtain ⟨e1, l1⟩ := pair_end e r
    exact more_mono _ _ _ _ e1 (Nat.le_refl _) (by omega)
theorem loop_more {n : Nat} {done : List (Str × Int)} {p : Str × Int} {ts : List Tok} (c : hdW ts = ",") : rdMoreP (n + 1) (done ++ [p]) ts = rdLoop n (done ++ [p]) p.1 ts.tail := by
  show ((if hdW ts = "," then (match rdPair (((done ++ [p]).getLast?.map (·.1)).getD "") ts.tail with | .error e => .error e | .ok (p', ts2) => rdMoreP n ((done ++ [p]) ++ [p']) ts2) else .ok (done ++ [p], ts)) : Rd (List (Str × Int))) = _
  rw [if_pos c, show (((done ++ [p]).getLast?.map (fun x : Str × Int => x.1)).getD ("" : Str)) = p.1 by simp]
  rfl
/-- what the law's reading tells: where it ends and what was read, or where it stopped -/
def LFin {α : Type} (val : Hp → V → α → Prop) (H : Hp) (Q : VK) (L : List Tok) (r : Rd α) : Prop :=
  (∀ x ts, r = .ok (x, ts) → ∀ (H' : Hp) (t : Addr) (v : V) (j : Nat), Same H H' → ts = L.drop j → EndT ts → H' t = some (.tup [.int (j : Nat), v]) → val H' v x → Q (.ref t) H') ∧
  (∀ e, r = .error e → ∀ (H' : Hp) (t : Addr) (j : Nat), Same H H' → hdA (L.drop j) = e → EndT (L.drop j) → H' t = some (.tup [.int (j : Nat), .non]) → Q (.ref t) H')
theorem PairAt.same {H H' : Hp} {v : V} {p : Str × Int} (s : Same H H') (h : PairAt H v p) : PairAt H' v p := h.ki (Ki.of s)
section
variable {P : Program} {w : World} {K : PySem.W.Frag} {mg : Str → Option Value} {base : Heap}
def spPnd : Sp := fun vs H Q _ => ∃ (q : Addr) (us : List V) (L : List Tok) (i : Nat), vs = [.ref q, .int (i : Nat)] ∧ H q = some (.lst us) ∧ Paired (TkAt H) us L ∧ WfL L ∧ EndT (L.drop i) ∧ LFin (fun H' v ps => ∃ t, v = .ref t ∧ PairsAt H' t ps) H Q L (rdPairs (L.drop i))
abbrev nmPnd : List Str := ["_law_tokens_here", "_law_at", "_law_last", "_law_found", "_law_word", "_law_spot", "_law_kind", "_law_reserved", "_law_size"]
theorem scPnd : FnScope nmPnd ["_law_tokens_here", "_law_at"] (defScope sPnd) := ⟨rfl, rfl, rfl, by decide +kernel, rfl, by decide +kernel, by decide +kernel⟩
def WPn (q D : Addr) (H : Hp) (L : List Tok) (R : Rd (List (Str × Int))) (m : Nat) (σ : L2.St) (H' : Hp) : Prop := ∃ (i n : Nat) (last : Str) (done : List (Str × Int)) (ds : List V) (v4 v5 v6 v7 v8 : Option V), σ = [some (.ref q), some (.int (i : Nat)), some (.str last), some (.ref D), v4, v5, v6, v7, v8] ∧ Same H H' ∧ H' D = some (.lst ds) ∧ Paired (PairAt H') ds done ∧ EndT (L.drop i) ∧ m = L.length - i ∧ done.length ≤ i ∧ R = rdLoop n done last (L.drop i) ∧ (L.drop i).length ≤ n + 1
theorem ok_pnd {f fN : Addr} {fd dN : FuncData} {k : Nat} (F : Fun K "_law_pairs_end" "_law_pairs_end" sPnd f fd) (B : Bi mg) (Ng : Has P w K mg base k "_law_number_good" ["_law_token", "_law_low", "_law_high"] spNg fN dN) : FnOk P w K mg base CX0 (k + 1) f fd ["_law_tokens_here", "_law_at"] spPnd := by
  refine F.ok scPnd (fun vs H Q E h => ?_) (fun cdv A outer s H vs Q E hr h => ?_)
  · obtain ⟨q, us, L, i, rfl, _⟩ := h
    rfl
  · obtain ⟨q, us, L, i0, rfl, hq, pr, wf, e0, Qk, Ek⟩ := h
    refine ⟨_, (pss_cons (ps_set (i := 2) scPnd.nd rfl (.inl rfl) pe_str)
        (pss_cons (ps_set (i := 3) scPnd.nd rfl (.inl rfl) (pe_lst pa_nil))
        (pss_one (ps_while PassesOwn.never (pt_val pe_bl) (pss_cons (ps_asg (pe_ix (r := rIxL K) ix_list (pv 0) (pv 1) (fun _ _ => rfl)) (pg_tup rfl (pgs_cons (pg_name (i := 4) scPnd.nd rfl (.inl rfl)) (pgs_cons (pg_name (i := 5) scPnd.nd rfl (.inl rfl)) (pgs_cons (pg_name (i := 6) scPnd.nd rfl (.inl rfl)) pgs_nil)))))
        (pss_cons (ps_set (i := 7) scPnd.nd rfl (.inl rfl) (pe_cmpR op_in_seq (pv 4) (pe_tup (pa_cons pe_str (pa_cons pe_str (pa_cons pe_str (pa_cons pe_str (pa_cons pe_str (pa_cons pe_str pa_nil))))))) (by rfl)))
        (Evl.pss_cut (ps_if (PW.pt (pw_or (pt_cmpR op_ne (pv 6) pe_int (nomark _)) (pw_or (pt_cmpR op_gt (pe_callB call_len_str (by rfl) B.len PySem.boot_len (pa_cons (pv 4) pa_nil)) pe_int (nomark _)) (pw_or (pt_val (pv 7)) (pw_or1 (pt_cmpR op_le_str (pv 4) (pv 2) (nomark _))))))) (pss_one (ps_ret (pe_tup (pa_cons (pv 1) (pa_cons pe_non pa_nil))))) pss_nil)
        (Evl.pss_cut (ps_par3 (i := 2) (j := 8) (l := 1) rfl scPnd.nd rfl rfl rfl (by decide) (by decide) (by decide) rfl rfl rfl (pa_cons (pv 4) (pa_cons pe_int (pa_cons (pe_op op_add (pv 1) pe_int) pa_nil))) rfl)
        (Evl.pss_cut (ps_if (pt_cmpR op_eq (pe_ix ix_tup (pe_ix (r := rIxL K) ix_list (pv 0) (pv 1) (fun _ _ => rfl)) pe_int (fun _ _ => rfl)) pe_int (nomark _)) (pss_cons (ps_if (pt_not (pt_val (pe_call Ng.G hr (by rfl) Ng.g Ng.kp Ng.b .nil pass0 (pa_cons (pe_ix (r := rIxL K) ix_list (pv 0) (pv 1) (fun _ _ => rfl)) (pa_cons pe_int (pa_cons pe_int pa_nil)))))) (pss_one (ps_ret (pe_tup (pa_cons (pv 1) (pa_cons pe_non pa_nil))))) pss_nil)
        (pss_one (ps_par (i := 8) (j := 1) rfl scPnd.nd rfl rfl (by decide) rfl rfl (pa_cons (pe_callTy call_int_str (by rfl) B.int (by decide +kernel) (pa_cons (pe_ix ix_tup (pe_ix (r := rIxL K) ix_list (pv 0) (pv 1) (fun _ _ => rfl)) pe_int (fun _ _ => rfl)) pa_nil)) (pa_cons (pe_op op_add (pv 1) pe_int) pa_nil)) rfl))) pss_nil)
        (pss_cons (ps_expr (pe_bm PySem.F.plainAttrs_list PySem.F.slot_list_append PySem.F.type_list_append mt_append (pv 3) (pa_cons (pe_tup (pa_cons (pv 2) (pa_cons (pv 8) pa_nil))) pa_nil)))
        (pss_cons (ps_if (pt_cmpR op_ne (pe_ix ix_tup (pe_ix (r := rIxL K) ix_list (pv 0) (pv 1) (fun _ _ => rfl)) pe_int (fun _ _ => rfl)) pe_str (nomark _)) (pss_one (ps_ret (pe_tup (pa_cons (pv 1) (pa_cons (pe_callTy (r := rTupF K) call_tupF (by rfl) B.tup (by decide +kernel) (pa_cons (pv 3) pa_nil)) pa_nil))))) pss_nil)
        (pss_one (ps_set (i := 1) scPnd.nd rfl (.inl rfl) (pe_op op_add (pv 1) pe_int)))))))))))))), ?_⟩
    have lus := pr.length
    rw [loop_start e0] at Qk Ek
    generalize hR : rdLoop (L.drop i0).length [] "" (L.drop i0) = R at *
    refine ⟨Nat.zero_le _, fun D nD => ?_⟩
    have nDq : D ≠ q := ne_of_fresh hq nD
    refine ⟨WPn q D H L R, ⟨_, i0, _, "", [], [], none, none, none, none, none, rfl, same_upd nD, upd_same, .nil, e0, rfl, Nat.zero_le _, hR.symm, Nat.le_succ _⟩, ?_⟩
    rintro m σ H1 ⟨i, n, last, done, ds, v4, v5, v6, v7, v8, rfl, s1, hD, pd, e1, rfl, ld, eR, hn⟩
    refine ⟨true, rfl, iT rfl ?_⟩
    refine ⟨fun σ' H' => ∃ m', m' < L.length - i ∧ WPn q D H L R m' σ' H', fun _ _ h => h, ?_⟩
    have hq1 := s1 _ _ hq
    have pr1 := paired_mono (fun _ _ => TkAt.same s1) pr
    obtain ⟨a, ua, ha, hin, il⟩ := tok_at pr1 e1
    have tkw := wf.tk _ hin
    have lw := wf.len _ hin
    have hw : (hdW (L.drop i)).length ≤ sizeLine := Nat.le_trans lw (by decide)
    have wl := wf.n
    dsimp only at tkw lw
    -- the token
    refine ⟨_, rfl, _, rfl, q, _, _, _, rfl, rfl, SqL.of hq1, atI_nat ua, a, _, rfl, SqT.of ha, rfl, _, _, rfl, _, _, rfl, _, _, rfl, rfl, ?_⟩
    -- kept words
    refine ⟨_, rfl, (by show 6 ≤ sizeLine; decide), fun kt nkt => ?_⟩
    have s2 := same_upd (o := .tup [.str "each", .str "after", .str "with", .str "gives", .str "at", .str "most"]) nkt
    have hkt : (upd H1 kt (.tup [.str "each", .str "after", .str "with", .str "gives", .str "at", .str "most"])) kt = some (.tup (keptW.map V.str)) := upd_same
    generalize upd H1 kt (.tup [.str "each", .str "after", .str "with", .str "gives", .str "at", .str "most"]) = H2 at *
    refine ⟨kt, _, rfl, .inr (SqT.of hkt), rfl, strs_flat _, ?_⟩
    rw [if_neg Bool.false_ne_true, inV_mem]
    have hq2 := s2 _ _ hq1
    have hD2 := s2 _ _ hD
    have pr2 := paired_mono (fun _ _ => TkAt.same s2) pr1
    have pd2 := paired_mono (fun _ _ h => PairAt.same s2 h) pd
    have s02 := s1.trans s2
    have epair := pair_eqE (last := last) e1
    have eR1 : R = match rdPair last (L.drop i) with | .error e => .error e | .ok (p, ts1) => rdMoreP n (done ++ [p]) ts1 := eR
    rw [epair] at eR1
    generalize hWd : hdW (L.drop i) = wd at *
    have nmw := name_tk tkw
    -- what is no name
    refine ⟨fun σ' H' => σ' = [some (.ref q), some (.int (i : Nat)), some (.str last), some (.ref D), some (.str wd), some (.int (hdA (L.drop i) : Nat)), some (.int (gkS wd : Nat)), some (.bl (decide (wd ∈ keptW))), v8] ∧ H2 = H' ∧ nameOk last wd = true, ?_, ?_⟩
    · have fail : nameOk last wd = false → ∀ t, H2 t = none → Q (.ref t) (upd H2 t (.tup [.int (i : Nat), .non])) := fun no t nt => by
        rw [if_neg (by rw [no]; exact Bool.false_ne_true)] at eR1
        exact Ek _ eR1 _ t i (s02.trans (same_upd nt)) rfl e1 upd_same
      refine ⟨_, rfl, rfl, _, rfl, ?_⟩
      by_cases g2 : gkS wd = 2
      rotate_left
      · refine iT (by rw [decide_eq_false (fun z => g2 (by have := V.int.inj z; omega))]; rfl) (iT rfl ⟨_, rfl, (by show 2 ≤ sizeLine; decide), fun t nt => fail ?_ t nt⟩)
        unfold nameOk
        rw [nmw, decide_eq_false g2, Bool.false_and, Bool.false_and]
      refine iF (by rw [decide_eq_true (congrArg V.int (show ((gkS wd : Nat) : Int) = 2 by omega))]; rfl) ?_
      refine ⟨_, rfl, wd, rfl, hw, _, _, rfl, rfl, _, rfl, ?_⟩
      by_cases l6 : wd.length ≤ 6
      rotate_left
      · refine iT (decide_eq_true (by omega)) (iT rfl ⟨_, rfl, (by show 2 ≤ sizeLine; decide), fun t nt => fail ?_ t nt⟩)
        unfold nameOk
        rw [nmw, decide_eq_false l6, Bool.and_false, Bool.false_and]
      refine iF (decide_eq_false (by omega)) ?_
      refine ⟨_, rfl, _, rfl, ?_⟩
      by_cases kp : wd ∈ keptW
      · refine iT (decide_eq_true kp) (iT rfl ⟨_, rfl, (by show 2 ≤ sizeLine; decide), fun t nt => fail ?_ t nt⟩)
        unfold nameOk
        rw [show keptW.contains wd = true from List.contains_iff_mem.mpr kp]
        simp
      have kpf : keptW.contains wd = false := by
        cases z : keptW.contains wd with
        | false => rfl
        | true => exact absurd (List.contains_iff_mem.mp z) kp
      refine iF (decide_eq_false kp) ?_
      refine ⟨_, rfl, _, rfl, _, _, rfl, rfl, _, rfl, ?_⟩
      by_cases lt : last.cps.toList < wd.cps.toList
      rotate_left
      · refine iT (by rw [decide_eq_false lt]; rfl) ⟨_, rfl, (by show 2 ≤ sizeLine; decide), fun t nt => fail ?_ t nt⟩
        unfold nameOk
        rw [decide_eq_false lt]
        simp
      refine iF (by rw [decide_eq_true lt]; rfl) ⟨rfl, rfl, ?_⟩
      unfold nameOk
      rw [nmw, kpf, decide_eq_true lt, decide_eq_true g2, decide_eq_true l6]
      rfl
    rintro σ' H' ⟨rfl, rfl, nok⟩
    rw [if_pos nok] at eR1
    have wne : wd ≠ "" := nameOk_ne nok
    have e2 : EndT (L.drop (i + 1)) := end_next e1 (by rw [hWd]; exact wne)
    rw [drop_tail] at eR1
    have i1 : ((i : Nat) : Int) + 1 = ((i + 1 : Nat) : Int) := by omega
    refine ⟨fun σ' H' => σ' = [some (.ref q), some (.int ((i + 1 : Nat) : Int)), some (.str wd), some (.ref D), some (.str wd), some (.int (hdA (L.drop i) : Nat)), some (.int (gkS wd : Nat)), some (.bl (decide (wd ∈ keptW))), some (.int 1)] ∧ H2 = H', ?_, ?_⟩
    · refine ⟨_, rfl, _, rfl, _, _, rfl, rfl, _, _, _, rfl, ?_, rfl⟩
      show [some (V.ref q), some (V.int (((i : Nat) : Int) + 1)), some (.str wd), some (.ref D), some (.str wd), some (.int (hdA (L.drop i) : Nat)), some (.int (gkS wd : Nat)), some (.bl (decide (wd ∈ keptW))), some (.int 1)] = _
      rw [i1]
    rintro σ' H' ⟨rfl, rfl⟩
    -- the number
    obtain ⟨a1, ua1, ha1, hin1, il1⟩ := tok_at pr2 e2
    have tk1 := wf.tk _ hin1
    have lw1 := wf.len _ hin1
    have dg1 := dig1_tk (wf.asc _ hin1)
    dsimp only at tk1 lw1 dg1
    generalize hW1 : hdW (L.drop (i + 1)) = w1 at *
    refine ⟨fun σ' H' => ∃ (j : Nat) (sz : Int) (v4 v5 v6 v7 : Option V), σ' = [some (.ref q), some (.int (j : Nat)), some (.str wd), some (.ref D), v4, v5, v6, v7, some (.int sz)] ∧ H2 = H' ∧ i + 1 ≤ j ∧ EndT (L.drop j) ∧ R = rdMoreP n (done ++ [(wd, sz)]) (L.drop j), ?_, ?_⟩
    · refine ⟨_, rfl, _, rfl, q, _, _, _, rfl, rfl, SqL.of hq2, atI_nat ua1, a1, _, 2, _, rfl, rfl, SqT.of ha1, atI_nat (j := 2) rfl, rfl, _, rfl, ?_⟩
      by_cases g1 : gkS w1 = 1
      rotate_left
      · rw [if_neg (by rw [dg1, decide_eq_false g1]; exact Bool.false_ne_true)] at eR1
        exact iF (decide_eq_false (fun z => g1 (by have := V.int.inj z; omega))) ⟨i + 1, 1, _, _, _, _, rfl, rfl, Nat.le_refl _, e2, eR1⟩
      rw [if_pos (by rw [dg1]; exact decide_eq_true g1)] at eR1
      refine iT (decide_eq_true (congrArg V.int (show ((gkS w1 : Nat) : Int) = 1 by omega))) ?_
      refine ⟨_, rfl, _, rfl, q, _, _, _, rfl, rfl, SqL.of hq2, atI_nat ua1, a1, w1, _, 2, 4, rfl, ha1, tk1, lw1, by decide, by decide, _, rfl, ?_⟩
      by_cases mm : w1 ∈ numL 2 4
      rotate_left
      · rw [if_neg mm] at eR1
        refine iT (by rw [decide_eq_false mm]; rfl) ⟨_, rfl, (by show 2 ≤ sizeLine; decide), fun t nt => ?_⟩
        exact Ek _ eR1 _ t (i + 1) (s02.trans (same_upd nt)) rfl e2 upd_same
      rw [if_pos mm] at eR1
      obtain ⟨kk, ek, k1, k2⟩ := numL_mem mm (by decide)
      have en : PySem.intText? w1 = some (kk : Int) := by rw [ek]; exact num_int (by omega) (by omega)
      have l2 : w1.length ≤ 640 := by
        have := (numL_yes_len mm)
        omega
      rw [en, drop_tail] at eR1
      refine iF (by rw [decide_eq_true mm]; rfl) ?_
      refine ⟨_, rfl, _, rfl, q, _, _, _, rfl, rfl, SqL.of hq2, atI_nat ua1, a1, _, 0, _, rfl, rfl, SqT.of ha1, atI_nat (j := 0) rfl, w1, _, rfl, en, l2, _, rfl, _, _, rfl, rfl, _, _, rfl, ?_⟩
      refine ⟨i + 1 + 1, kk, some (.str wd), some (.int (hdA (L.drop i) : Nat)), some (.int (gkS wd : Nat)), some (.bl (decide (wd ∈ keptW))), ?_, rfl, by omega, end_next e2 (by rw [hW1]; exact fun z => numL_ne (lo := 2) (hi := 4) (by decide) (z ▸ mm)), eR1⟩
      show [some (V.ref q), some (V.int (((i + 1 : Nat) : Int) + 1)), some (.str wd), some (.ref D), some (.str wd), some (.int (hdA (L.drop i) : Nat)), some (.int (gkS wd : Nat)), some (.bl (decide (wd ∈ keptW))), some (.int kk)] = _
      rw [show (((i + 1 : Nat) : Int) + 1) = ((i + 1 + 1 : Nat) : Int) by omega]
    rintro σ' H' ⟨j, sz, v4', v5', v6', v7', rfl, rfl, ij, ej, eRj⟩
    have lds := pd2.length
    have hnd : (L.drop j).length + 1 ≤ n + 1 := by
      rw [List.length_drop] at hn ⊢
      obtain ⟨_, _, _, _, jl⟩ := tok_at pr2 ej
      omega
    refine ⟨_, rfl, .inl ⟨rfl, _, Or.inl (Or.inl hD2)⟩, _, rfl, _, rfl, (by show 2 ≤ sizeLine; decide), fun T nT => ?_⟩
    have sT := same_upd (o := .tup [.str wd, .int sz]) nT
    have hT : (upd H2 T (.tup [.str wd, .int sz])) T = some (.tup [.str wd, .int sz]) := upd_same
    have nTD : T ≠ D := ne_of_fresh hD2 nT
    generalize upd H2 T (.tup [.str wd, .int sz]) = H3 at *
    refine ⟨D, ds, _, rfl, rfl, sT _ _ hD2, (by rw [lds]; show done.length < 16777216; omega), ?_⟩
    have s04 : Same H (upd H3 D (.lst (ds ++ [.ref T]))) := (s02.trans sT).put nD
    have hD4 : (upd H3 D (.lst (ds ++ [.ref T]))) D = some (.lst (ds ++ [.ref T])) := upd_same
    have pd4 : Paired (PairAt (upd H3 D (.lst (ds ++ [.ref T])))) (ds ++ [.ref T]) (done ++ [(wd, sz)]) := paired_snoc (paired_mono (fun v p h => by
      obtain ⟨c, ec, hc⟩ := PairAt.same sT h
      exact ⟨c, ec, by rw [upd_ne (fun z => by rw [z, sT _ _ hD2] at hc; cases hc)]; exact hc⟩) pd2) ⟨T, rfl, by rw [upd_ne nTD]; exact hT⟩
    generalize upd H3 D (.lst (ds ++ [.ref T])) = H4 at *
    have hq4 := s04 _ _ hq
    have pr4 := paired_mono (fun _ _ => TkAt.same s04) pr
    obtain ⟨a4, ua4, ha4, _, jl⟩ := tok_at pr4 ej
    refine ⟨_, rfl, _, rfl, q, _, _, _, rfl, rfl, SqL.of hq4, atI_nat ua4, a4, _, 0, _, rfl, rfl, SqT.of ha4, atI_nat (j := 0) rfl, rfl, _, rfl, ?_⟩
    cases n with
    | zero =>
      obtain ⟨r, er⟩ := hd_in ej
      rw [er] at hnd
      simp at hnd
    | succ n =>
    by_cases c : hdW (L.drop j) = ","
    · refine iF (by rw [decide_eq_true (congrArg V.str c)]; rfl) ?_
      rw [loop_more c, drop_tail] at eRj
      refine ⟨_, rfl, _, _, rfl, rfl, L.length - (j + 1), by omega, j + 1, n, wd, done ++ [(wd, sz)], ds ++ [.ref T], v4', v5', v6', v7', some (.int sz), ?_, s04, hD4, pd4, end_next ej (by rw [c]; decide +kernel), rfl, by rw [List.length_append]; show done.length + 1 ≤ j + 1; omega, eRj, ?_⟩
      · show [some (V.ref q), some (V.int (((j : Nat) : Int) + 1)), some (.str wd), some (.ref D), v4', v5', v6', v7', some (.int sz)] = _
        rw [show ((j : Nat) : Int) + 1 = ((j + 1 : Nat) : Int) by omega]
      · rw [List.length_drop] at hnd ⊢
        omega
    · refine iT (by rw [decide_eq_false (fun z => c (V.str.inj z))]; rfl) ?_
      have eok : R = .ok (done ++ [(wd, sz)], L.drop j) := by
        rw [eRj]
        show ((if hdW (L.drop j) = "," then _ else .ok (done ++ [(wd, sz)], L.drop j)) : Rd (List (Str × Int))) = _
        rw [if_neg c]
      refine ⟨_, rfl, _, rfl, D, _, rfl, .inl ⟨SqL.of hD4, fun T2 o nT2 dn => ⟨(by show 2 ≤ sizeLine; decide), fun t nt => ?_⟩⟩⟩
      have sT2 := same_upd (o := .frz o (.tup (ds ++ [V.ref T]))) nT2
      have hT2 : (upd H4 T2 (.frz o (.tup (ds ++ [V.ref T])))) T2 = some (.frz o (.tup (ds ++ [V.ref T]))) := upd_same
      generalize upd H4 T2 (.frz o (.tup (ds ++ [V.ref T]))) = H5 at *
      have st := same_upd (o := .tup [.int (j : Nat), .ref T2]) nt
      exact Qk _ _ eok _ t (.ref T2) j ((s04.trans sT2).trans st) rfl ej upd_same ⟨T2, rfl, _, ⟨o, dn, st _ _ hT2⟩, paired_mono (fun _ _ h => PairAt.same (sT2.trans st) h) pd4⟩
end
end Hl

set_option Elab.async false
set_option linter.all false
set_option maxRecDepth 100000
set_option maxHeartbeats 4000000
/-! _law_rule_end -/
namespace Hl
open PySem PySem.Spec PyProof.Rows L2 Tk
abbrev sRnd : Stmt := topS 55
theorem numL_int {lo hi : Nat} {w : Str} (h : w ∈ numL lo hi) (hh : lo ≤ hi) (h12 : hi ≤ 12) : ∃ k : Nat, PySem.intText? w = some (k : Int) ∧ w.length ≤ 640 := by
  obtain ⟨k, rfl, k1, k2⟩ := numL_mem h hh
  exact ⟨k, num_int (by omega) (by omega), by have := numL_yes_len h hh h12; omega⟩
theorem each_eq {ts : List Tok} (e : EndT ts) : rdRule ts = if hdW ts = "each" then rdR1 ts.tail else .error (hdA ts) := by
  unfold rdRule
  rw [one_eq e]
  by_cases h : hdW ts = "each"
  · rw [if_pos h, if_pos h]
  · rw [if_neg h, if_neg h]
theorem r1_eq {ts : List Tok} (e : EndT ts) : rdR1 ts = if hdW ts ∈ numL 1 6 then rdR2 ((PySem.intText? (hdW ts)).getD 0) ts.tail else .error (hdA ts) := by
  unfold rdR1
  rw [num_eq e]
  by_cases h : hdW ts ∈ numL 1 6
  · rw [if_pos h, if_pos h]
  · rw [if_neg h, if_neg h]
theorem r2_eq {x : Int} {ts : List Tok} (e : EndT ts) : rdR2 x ts = if hdW ts = "after" then (if hdW ts.tail ∈ numL 1 12 then rdR3 x ((PySem.intText? (hdW ts.tail)).getD 0) ts.tail.tail else .error (hdA ts.tail)) else rdR3 x 0 ts := by
  unfold rdR2 rdAfter
  by_cases h : hdW ts = "after"
  · rw [if_pos h, if_pos h, num_eq (e.tail (by rw [h]; decide +kernel))]
    by_cases n : hdW ts.tail ∈ numL 1 12
    · rw [if_pos n, if_pos n]
    · rw [if_neg n, if_neg n]
  · rw [if_neg h, if_neg h]
theorem r3_eq {x a : Int} {ts : List Tok} (e : EndT ts) : rdR3 x a ts = if hdW ts = "with" then rdR4 x a ts.tail else .error (hdA ts) := by
  unfold rdR3
  rw [one_eq e]
  by_cases h : hdW ts = "with"
  · rw [if_pos h, if_pos h]
  · rw [if_neg h, if_neg h]
theorem r5_eq {x a : Int} {ws : List (Str × Int)} {ts : List Tok} (e : EndT ts) : rdR5 x a ws ts = if hdW ts = "gives" then rdR6 x a ws ts.tail else .error (hdA ts) := by
  unfold rdR5
  rw [one_eq e]
  by_cases h : hdW ts = "gives"
  · rw [if_pos h, if_pos h]
  · rw [if_neg h, if_neg h]
theorem r7_eq {x a : Int} {ws gs : List (Str × Int)} {ts : List Tok} (e : EndT ts) : rdR7 x a ws gs ts = if hdW ts = "at" then (if hdW ts.tail = "most" then (if hdW ts.tail.tail ∈ numL 1 6 then .ok (⟨x, a, some ((PySem.intText? (hdW ts.tail.tail)).getD 0), ws, gs⟩, ts.tail.tail.tail) else .error (hdA ts.tail.tail)) else .error (hdA ts.tail)) else .ok (⟨x, a, none, ws, gs⟩, ts) := by
  unfold rdR7 rdMost
  by_cases h : hdW ts = "at"
  · have e1 := e.tail (show hdW ts ≠ "" by rw [h]; decide +kernel)
    rw [if_pos h, if_pos h, one_eq e1]
    by_cases h1 : hdW ts.tail = "most"
    · rw [if_pos h1, if_pos h1]
      dsimp only
      rw [num_eq (e1.tail (show hdW ts.tail ≠ "" by rw [h1]; decide +kernel))]
      by_cases n : hdW ts.tail.tail ∈ numL 1 6
      · rw [if_pos n, if_pos n]
      · rw [if_neg n, if_neg n]
    · rw [if_neg h1, if_neg h1]
  · rw [if_neg h, if_neg h]
theorem PairsAt.same {H H' : Hp} {t : Addr} {ps : List (Str × Int)} (s : Same H H') (h : PairsAt H t ps) : PairsAt H' t ps := h.ki (Ki.of s)
section
variable {P : Program} {w : World} {K : PySem.W.Frag} {mg : Str → Option Value} {base : Heap}
def spRnd : Sp := fun vs H Q _ => ∃ (q : Addr) (us : List V) (L : List Tok) (i : Nat), vs = [.ref q, .int (i : Nat)] ∧ H q = some (.lst us) ∧ Paired (TkAt H) us L ∧ WfL L ∧ EndT (L.drop i) ∧ LFin RuleAt H Q L (rdRule (L.drop i))
abbrev nmRnd : List Str := ["_law_tokens_here", "_law_at", "_law_numbers", "_law_weights_now", "_law_gives"]
theorem scRnd : FnScope nmRnd ["_law_tokens_here", "_law_at"] (defScope sRnd) := ⟨rfl, rfl, rfl, by decide +kernel, rfl, by decide +kernel, by decide +kernel⟩
theorem ok_rnd {f fN fP : Addr} {fd dN dP : FuncData} {k : Nat} (F : Fun K "_law_rule_end" "_law_rule_end" sRnd f fd) (B : Bi mg) (Ng : Has P w K mg base k "_law_number_good" ["_law_token", "_law_low", "_law_high"] spNg fN dN) (Pn : Has P w K mg base k "_law_pairs_end" ["_law_tokens_here", "_law_at"] spPnd fP dP) : FnOk P w K mg base CX0 (k + 1) f fd ["_law_tokens_here", "_law_at"] spRnd := by
  refine F.ok scRnd (fun vs H Q E h => ?_) (fun cdv A outer s H vs Q E hr h => ?_)
  · obtain ⟨q, us, L, i, rfl, _⟩ := h
    rfl
  · obtain ⟨q, us, L, i, rfl, hq, pr, wf, e0, Qk, Ek⟩ := h
    refine ⟨_, (pss_cons (ps_set (i := 2) scRnd.nd rfl (.inl rfl) (pe_lst (pa_cons pe_int (pa_cons pe_int (pa_cons pe_non pa_nil)))))
        (Evl.pss_cut (ps_if (pt_cmpR op_ne (pe_ix ix_tup (pe_ix (r := rIxL K) ix_list (pv 0) (pv 1) (fun _ _ => rfl)) pe_int (fun _ _ => rfl)) pe_str (nomark _)) (pss_one (ps_ret (pe_tup (pa_cons (pv 1) (pa_cons pe_non pa_nil))))) pss_nil)
        (Evl.pss_cut (ps_if (pt_not (pt_val (pe_call Ng.G hr (by rfl) Ng.g Ng.kp Ng.b .nil pass0 (pa_cons (pe_ix (r := rIxL K) ix_list (pv 0) (pe_op op_add (pv 1) pe_int) (fun _ _ => rfl)) (pa_cons pe_int (pa_cons pe_int pa_nil)))))) (pss_one (ps_ret (pe_tup (pa_cons (pe_op op_add (pv 1) pe_int) (pa_cons pe_non pa_nil))))) pss_nil)
        (Evl.pss_cut (ps_asg (pe_tup (pa_cons (pe_callTy call_int_str (by rfl) B.int (by decide +kernel) (pa_cons (pe_ix ix_tup (pe_ix (r := rIxL K) ix_list (pv 0) (pe_op op_add (pv 1) pe_int) (fun _ _ => rfl)) pe_int (fun _ _ => rfl)) pa_nil)) (pa_cons (pe_op op_add (pv 1) pe_int) pa_nil))) (pg_tup rfl (pgs_cons (pg_sub (pv 2) pe_int set_list) (pgs_cons (pg_name (i := 1) scRnd.nd rfl (.inl rfl)) pgs_nil))))
        (Evl.pss_cut (ps_if (pt_cmpR op_eq (pe_ix ix_tup (pe_ix (r := rIxL K) ix_list (pv 0) (pv 1) (fun _ _ => rfl)) pe_int (fun _ _ => rfl)) pe_str (nomark _)) (Evl.pss_cut (ps_if (pt_not (pt_val (pe_call Ng.G hr (by rfl) Ng.g Ng.kp Ng.b .nil pass0 (pa_cons (pe_ix (r := rIxL K) ix_list (pv 0) (pe_op op_add (pv 1) pe_int) (fun _ _ => rfl)) (pa_cons pe_int (pa_cons pe_int pa_nil)))))) (pss_one (ps_ret (pe_tup (pa_cons (pe_op op_add (pv 1) pe_int) (pa_cons pe_non pa_nil))))) pss_nil)
        (pss_one (ps_asg (pe_tup (pa_cons (pe_callTy call_int_str (by rfl) B.int (by decide +kernel) (pa_cons (pe_ix ix_tup (pe_ix (r := rIxL K) ix_list (pv 0) (pe_op op_add (pv 1) pe_int) (fun _ _ => rfl)) pe_int (fun _ _ => rfl)) pa_nil)) (pa_cons (pe_op op_add (pv 1) pe_int) pa_nil))) (pg_tup rfl (pgs_cons (pg_sub (pv 2) pe_int set_list) (pgs_cons (pg_name (i := 1) scRnd.nd rfl (.inl rfl)) pgs_nil)))))) pss_nil)
        (Evl.pss_cut (ps_if (pt_cmpR op_ne (pe_ix ix_tup (pe_ix (r := rIxL K) ix_list (pv 0) (pv 1) (fun _ _ => rfl)) pe_int (fun _ _ => rfl)) pe_str (nomark _)) (pss_one (ps_ret (pe_tup (pa_cons (pv 1) (pa_cons pe_non pa_nil))))) pss_nil)
        (Evl.pss_cut (ps_asg (pe_call Pn.G hr (by rfl) Pn.g Pn.kp Pn.b .nil pass0 (pa_cons (pv 0) (pa_cons (pe_op op_add (pv 1) pe_int) pa_nil))) (pg_tup rfl (pgs_cons (pg_name (i := 1) scRnd.nd rfl (.inl rfl)) (pgs_cons (pg_name (i := 3) scRnd.nd rfl (.inl rfl)) pgs_nil))))
        (Evl.pss_cut (ps_if (PW.pt (pw_or (pt_cmpR op_isN (pv 3) pe_non (nomark _)) (pw_or1 (pt_cmpR op_ne (pe_ix ix_tup (pe_ix (r := rIxL K) ix_list (pv 0) (pv 1) (fun _ _ => rfl)) pe_int (fun _ _ => rfl)) pe_str (nomark _))))) (pss_one (ps_ret (pe_tup (pa_cons (pv 1) (pa_cons pe_non pa_nil))))) pss_nil)
        (Evl.pss_cut (ps_asg (pe_call Pn.G hr (by rfl) Pn.g Pn.kp Pn.b .nil pass0 (pa_cons (pv 0) (pa_cons (pe_op op_add (pv 1) pe_int) pa_nil))) (pg_tup rfl (pgs_cons (pg_name (i := 1) scRnd.nd rfl (.inl rfl)) (pgs_cons (pg_name (i := 4) scRnd.nd rfl (.inl rfl)) pgs_nil))))
        (Evl.pss_cut (ps_if (PW.pt (pw_or (pt_cmpR op_isN (pv 4) pe_non (nomark _)) (pw_or1 (pt_cmpR op_ne (pe_ix ix_tup (pe_ix (r := rIxL K) ix_list (pv 0) (pv 1) (fun _ _ => rfl)) pe_int (fun _ _ => rfl)) pe_str (nomark _))))) (pss_one (ps_ret (pe_tup (pa_cons (pv 1) (pa_cons (pe_ifExp (pt_cmpR op_isN (pv 4) pe_non (nomark _)) pe_non (pe_tup (pa_cons pe_str (pa_cons (pe_ix (r := rIxL K) ix_list (pv 2) pe_int (fun _ _ => rfl)) (pa_cons (pe_ix (r := rIxL K) ix_list (pv 2) pe_int (fun _ _ => rfl)) (pa_cons (pv 3) (pa_cons (pv 4) (pa_cons pe_non pa_nil)))))))) pa_nil))))) pss_nil)
        (Evl.pss_cut (ps_if (pt_cmpR op_ne (pe_ix ix_tup (pe_ix (r := rIxL K) ix_list (pv 0) (pe_op op_add (pv 1) pe_int) (fun _ _ => rfl)) pe_int (fun _ _ => rfl)) pe_str (nomark _)) (pss_one (ps_ret (pe_tup (pa_cons (pe_op op_add (pv 1) pe_int) (pa_cons pe_non pa_nil))))) pss_nil)
        (Evl.pss_cut (ps_if (pt_not (pt_val (pe_call Ng.G hr (by rfl) Ng.g Ng.kp Ng.b .nil pass0 (pa_cons (pe_ix (r := rIxL K) ix_list (pv 0) (pe_op op_add (pv 1) pe_int) (fun _ _ => rfl)) (pa_cons pe_int (pa_cons pe_int pa_nil)))))) (pss_one (ps_ret (pe_tup (pa_cons (pe_op op_add (pv 1) pe_int) (pa_cons pe_non pa_nil))))) pss_nil)
        (pss_one (ps_ret (pe_tup (pa_cons (pe_op op_add (pv 1) pe_int) (pa_cons (pe_tup (pa_cons pe_str (pa_cons (pe_ix (r := rIxL K) ix_list (pv 2) pe_int (fun _ _ => rfl)) (pa_cons (pe_ix (r := rIxL K) ix_list (pv 2) pe_int (fun _ _ => rfl)) (pa_cons (pv 3) (pa_cons (pv 4) (pa_cons (pe_callTy call_int_str (by rfl) B.int (by decide +kernel) (pa_cons (pe_ix ix_tup (pe_ix (r := rIxL K) ix_list (pv 0) (pe_op op_add (pv 1) pe_int) (fun _ _ => rfl)) pe_int (fun _ _ => rfl)) pa_nil)) pa_nil))))))) pa_nil))))))))))))))))), ?_⟩
    have two : 2 ≤ sizeLine := by decide
    -- a stop, at a place that is told
    have stop : ∀ (H1 : Hp) (j : Nat), Same H H1 → EndT (L.drop j) → rdRule (L.drop i) = .error (hdA (L.drop j)) → ∀ t, H1 t = none → Q (.ref t) (upd H1 t (.tup [.int (j : Nat), .non])) := fun H1 j s ej er t nt => Ek _ er _ t j (s.trans (same_upd nt)) rfl ej upd_same
    refine ⟨(by show 3 ≤ sizeLine; decide), fun D nD => ?_⟩
    have sD := same_upd (o := .lst [.int 0, .int 0, .non]) nD
    have hD : (upd H D (.lst [.int 0, .int 0, .non])) D = some (.lst [.int 0, .int 0, .non]) := upd_same
    have nDq : D ≠ q := ne_of_fresh hq nD
    generalize upd H D (.lst [.int 0, .int 0, .non]) = H1 at *
    have hq1 := sD _ _ hq
    have pr1 := paired_mono (fun _ _ => TkAt.same sD) pr
    obtain ⟨a, ua, ha, _, il⟩ := tok_at pr1 e0
    have er := each_eq e0
    -- each
    refine ⟨fun σ' H' => σ' = [some (.ref q), some (.int (i : Nat)), some (.ref D), none, none] ∧ H1 = H' ∧ hdW (L.drop i) = "each", ?_, ?_⟩
    · refine ⟨_, rfl, _, rfl, q, _, _, _, rfl, rfl, SqL.of hq1, atI_nat ua, a, _, 0, _, rfl, rfl, SqT.of ha, atI_nat (j := 0) rfl, rfl, _, rfl, ?_⟩
      by_cases c : hdW (L.drop i) = "each"
      · exact iF (by rw [decide_eq_true (congrArg V.str c)]; rfl) ⟨rfl, rfl, c⟩
      · rw [if_neg c] at er
        exact iT (by rw [decide_eq_false (fun z => c (V.str.inj z))]; rfl) ⟨_, rfl, two, fun t nt => stop H1 i sD e0 er t nt⟩
    rintro σ' H' ⟨rfl, rfl, c⟩
    rw [if_pos c, drop_tail] at er
    have e1 := end_next e0 (by rw [c]; decide +kernel)
    rw [r1_eq e1] at er
    obtain ⟨a1, ua1, ha1, hin1, il1⟩ := tok_at pr1 e1
    have tk1 := wf.tk _ hin1
    have lw1 := wf.len _ hin1
    have ix1 : ∀ {xs : List V} {v : V}, xs[i + 1]? = some v → atI xs (((i : Nat) : Int) + 1) = some v := fun h => by
      rw [show ((i : Nat) : Int) + 1 = ((i + 1 : Nat) : Int) by omega]; exact atI_nat h
    -- how many
    refine ⟨fun σ' H' => σ' = [some (.ref q), some (.int (i : Nat)), some (.ref D), none, none] ∧ H1 = H' ∧ hdW (L.drop (i + 1)) ∈ numL 1 6, ?_, ?_⟩
    · refine ⟨_, rfl, _, rfl, _, _, rfl, rfl, q, _, _, _, rfl, rfl, SqL.of hq1, ix1 ua1, a1, _, _, 1, 6, rfl, ha1, tk1, lw1, by decide, by decide, _, rfl, ?_⟩
      by_cases c : hdW (L.drop (i + 1)) ∈ numL 1 6
      · exact iF (by rw [decide_eq_true c]; rfl) ⟨rfl, rfl, c⟩
      · rw [if_neg c] at er
        exact iT (by rw [decide_eq_false c]; rfl) ⟨_, rfl, _, _, rfl, rfl, two, fun t nt => by
          have := stop H1 (i + 1) sD e1 er t nt
          rwa [show ((i + 1 : Nat) : Int) = ((i : Nat) : Int) + 1 by omega] at this⟩
    rintro σ' H' ⟨rfl, rfl, c1⟩
    rw [if_pos c1, drop_tail] at er
    have e2 := end_next e1 (fun z => numL_ne (lo := 1) (hi := 6) (by decide) (z ▸ c1))
    obtain ⟨k1, en1, l1⟩ := numL_int c1 (by decide) (by decide)
    rw [en1] at er
    have er : rdRule (L.drop i) = rdR2 (k1 : Int) (L.drop (i + 1 + 1)) := er
    refine ⟨fun σ' H' => σ' = [some (.ref q), some (.int ((i + 1 + 1 : Nat) : Int)), some (.ref D), none, none] ∧ Same H H' ∧ H' D = some (.lst [.int k1, .int 0, .non]), ?_, ?_⟩
    · refine ⟨_, rfl, _, rfl, _, _, rfl, rfl, q, _, _, _, rfl, rfl, SqL.of hq1, ix1 ua1, a1, _, 0, _, rfl, rfl, SqT.of ha1, atI_nat (j := 0) rfl, _, _, rfl, en1, l1, _, rfl, _, _, rfl, rfl, two, fun T nT => ?_⟩
      have sT := same_upd (o := .tup [.int (k1 : Int), .int (((i : Nat) : Int) + 2)]) nT
      refine ⟨T, _, rfl, SqT.of upd_same, rfl, _, _, rfl, ?_⟩
      refine ⟨_, rfl, D, _, 0, 0, rfl, rfl, sT _ _ hD, rfl, ?_⟩
      refine ⟨_, _, rfl, rfl, ?_, (sD.trans sT).put nD, upd_same⟩
      show [some (V.ref q), some (V.int (((i : Nat) : Int) + 2)), some (.ref D), none, none] = _
      rw [show ((i : Nat) : Int) + 2 = ((i + 1 + 1 : Nat) : Int) by omega]
    rintro σ' H2 ⟨rfl, s2, hD2⟩
    -- after
    have hq2 := s2 _ _ hq
    have pr2 := paired_mono (fun _ _ => TkAt.same s2) pr
    obtain ⟨a2, ua2, ha2, _, il2⟩ := tok_at pr2 e2
    rw [r2_eq e2] at er
    generalize hj2 : i + 1 + 1 = j2 at *
    have ixS : ∀ {j : Nat} {xs : List V} {v : V}, xs[j + 1]? = some v → atI xs (((j : Nat) : Int) + 1) = some v := fun {j _ _} h => by
      rw [show ((j : Nat) : Int) + 1 = ((j + 1 : Nat) : Int) by omega]; exact atI_nat h
    refine ⟨fun σ' H' => ∃ (j : Nat) (aa : Int), σ' = [some (.ref q), some (.int (j : Nat)), some (.ref D), none, none] ∧ Same H H' ∧ H' D = some (.lst [.int k1, .int aa, .non]) ∧ EndT (L.drop j) ∧ rdRule (L.drop i) = rdR3 (k1 : Int) aa (L.drop j), ?_, ?_⟩
    · refine ⟨_, rfl, _, rfl, q, _, _, _, rfl, rfl, SqL.of hq2, atI_nat ua2, a2, _, 0, _, rfl, rfl, SqT.of ha2, atI_nat (j := 0) rfl, rfl, _, rfl, ?_⟩
      by_cases c : hdW (L.drop j2) = "after"
      rotate_left
      · rw [if_neg c] at er
        exact iF (decide_eq_false fun z => c (V.str.inj z)) ⟨j2, 0, rfl, s2, hD2, e2, er⟩
      rw [if_pos c, drop_tail] at er
      have e3 := end_next e2 (by rw [c]; decide +kernel)
      obtain ⟨a3, ua3, ha3, hin3, il3⟩ := tok_at pr2 e3
      have tk3 := wf.tk _ hin3
      have lw3 := wf.len _ hin3
      refine iT (decide_eq_true (congrArg V.str c)) ?_
      refine ⟨fun σ' H' => σ' = [some (.ref q), some (.int (j2 : Nat)), some (.ref D), none, none] ∧ H2 = H' ∧ hdW (L.drop (j2 + 1)) ∈ numL 1 12, ?_, ?_⟩
      · refine ⟨_, rfl, _, rfl, _, _, rfl, rfl, q, _, _, _, rfl, rfl, SqL.of hq2, ixS ua3, a3, _, _, 1, 12, rfl, ha3, tk3, lw3, by decide, by decide, _, rfl, ?_⟩
        by_cases c : hdW (L.drop (j2 + 1)) ∈ numL 1 12
        · exact iF (by rw [decide_eq_true c]; rfl) ⟨rfl, rfl, c⟩
        · rw [if_neg c] at er
          exact iT (by rw [decide_eq_false c]; rfl) ⟨_, rfl, _, _, rfl, rfl, two, fun t nt => by
            have := stop H2 (j2 + 1) s2 e3 er t nt
            rwa [show ((j2 + 1 : Nat) : Int) = ((j2 : Nat) : Int) + 1 by omega] at this⟩
      rintro σ' H' ⟨rfl, rfl, c3⟩
      rw [if_pos c3, drop_tail] at er
      have e4 := end_next e3 (fun z => numL_ne (lo := 1) (hi := 12) (by decide) (z ▸ c3))
      obtain ⟨k3, en3, l3⟩ := numL_int c3 (by decide) (by decide)
      rw [en3] at er
      refine ⟨_, rfl, _, rfl, _, _, rfl, rfl, q, _, _, _, rfl, rfl, SqL.of hq2, ixS ua3, a3, _, 0, _, rfl, rfl, SqT.of ha3, atI_nat (j := 0) rfl, _, _, rfl, en3, l3, _, rfl, _, _, rfl, rfl, two, fun T nT => ?_⟩
      have sT := same_upd (o := .tup [.int (k3 : Int), .int (((j2 : Nat) : Int) + 2)]) nT
      refine ⟨T, _, rfl, SqT.of upd_same, rfl, _, _, rfl, ?_⟩
      refine ⟨_, rfl, D, _, 1, 1, rfl, rfl, sT _ _ hD2, rfl, ?_⟩
      refine ⟨_, _, rfl, rfl, j2 + 1 + 1, k3, ?_, (s2.trans sT).put nD, upd_same, e4, er⟩
      show [some (V.ref q), some (V.int (((j2 : Nat) : Int) + 2)), some (.ref D), none, none] = _
      rw [show ((j2 : Nat) : Int) + 2 = ((j2 + 1 + 1 : Nat) : Int) by omega]
    clear er ha2 ua2 hD2 hq2 pr2 e2 s2
    rintro σ' H3 ⟨j, aa, rfl, s3, hD3, e3, er⟩
    -- with
    have hq3 := s3 _ _ hq
    have pr3 := paired_mono (fun _ _ => TkAt.same s3) pr
    obtain ⟨a3, ua3, ha3, _, il3⟩ := tok_at pr3 e3
    rw [r3_eq e3] at er
    refine ⟨fun σ' H' => σ' = [some (.ref q), some (.int (j : Nat)), some (.ref D), none, none] ∧ H3 = H' ∧ hdW (L.drop j) = "with", ?_, ?_⟩
    · refine ⟨_, rfl, _, rfl, q, _, _, _, rfl, rfl, SqL.of hq3, atI_nat ua3, a3, _, 0, _, rfl, rfl, SqT.of ha3, atI_nat (j := 0) rfl, rfl, _, rfl, ?_⟩
      by_cases c : hdW (L.drop j) = "with"
      · exact iF (by rw [decide_eq_true (congrArg V.str c)]; rfl) ⟨rfl, rfl, c⟩
      · rw [if_neg c] at er
        exact iT (by rw [decide_eq_false (fun z => c (V.str.inj z))]; rfl) ⟨_, rfl, two, fun t nt => stop H3 j s3 e3 er t nt⟩
    rintro σ' H' ⟨rfl, rfl, c⟩
    rw [if_pos c, drop_tail] at er
    have e4 := end_next e3 (by rw [c]; decide +kernel)
    -- the weights
    refine ⟨fun σ' H' => ∃ (j : Nat) (v : V), σ' = [some (.ref q), some (.int (j : Nat)), some (.ref D), some v, none] ∧ Same H H' ∧ H' D = some (.lst [.int k1, .int aa, .non]) ∧ EndT (L.drop j) ∧ ((∃ ws t, v = .ref t ∧ PairsAt H' t ws ∧ rdRule (L.drop i) = rdR5 (k1 : Int) aa ws (L.drop j)) ∨ (v = .non ∧ rdRule (L.drop i) = .error (hdA (L.drop j)))), ?_, ?_⟩
    · refine ⟨_, rfl, _, rfl, _, _, rfl, rfl, q, us, L, j + 1, ?_, hq3, pr3, wf, e4, fun ws ts ep H' r v j' s' ets ee hrr hv => ?_, fun e ep H' r j' s' hh ee hrr => ?_⟩
      · show [V.ref q, V.int (((j : Nat) : Int) + 1)] = _
        rw [show ((j : Nat) : Int) + 1 = ((j + 1 : Nat) : Int) by omega]
      · obtain ⟨t, rfl, pa⟩ := hv
        refine ⟨r, _, rfl, SqT.of hrr, rfl, _, _, rfl, _, _, rfl, rfl, j', .ref t, rfl, s3.trans s', s' _ _ hD3, ets ▸ ee, .inl ⟨ws, t, rfl, pa, ?_⟩⟩
        rw [er]
        unfold rdR4
        rw [ep, ets]
      · refine ⟨r, _, rfl, SqT.of hrr, rfl, _, _, rfl, _, _, rfl, rfl, j', .non, rfl, s3.trans s', s' _ _ hD3, ee, .inr ⟨rfl, ?_⟩⟩
        rw [er]
        unfold rdR4
        rw [ep, hh]
    clear er e4 e3 ha3 ua3 hD3 hq3 pr3 s3 il3 c
    rintro σ' H4 ⟨j, v, rfl, s4, hD4, e4, alt⟩
    have hq4 := s4 _ _ hq
    have pr4 := paired_mono (fun _ _ => TkAt.same s4) pr
    obtain ⟨a4, ua4, ha4, _, il4⟩ := tok_at pr4 e4
    refine ⟨fun σ' H' => ∃ ws t, σ' = [some (.ref q), some (.int (j : Nat)), some (.ref D), some (.ref t), none] ∧ H4 = H' ∧ hdW (L.drop j) = "gives" ∧ PairsAt H' t ws ∧ rdRule (L.drop i) = rdR5 (k1 : Int) aa ws (L.drop j), ?_, ?_⟩
    · refine ⟨_, rfl, rfl, _, rfl, ?_⟩
      rcases alt with ⟨ws, t, rfl, pa, er⟩ | ⟨rfl, er⟩
      rotate_left
      · exact iT rfl (iT rfl ⟨_, rfl, two, fun t nt => stop H4 j s4 e4 er t nt⟩)
      refine iF rfl ?_
      refine ⟨_, rfl, _, rfl, q, _, _, _, rfl, rfl, SqL.of hq4, atI_nat ua4, a4, _, 0, _, rfl, rfl, SqT.of ha4, atI_nat (j := 0) rfl, rfl, _, rfl, ?_⟩
      by_cases c : hdW (L.drop j) = "gives"
      · exact iF (by rw [decide_eq_true (congrArg V.str c)]; rfl) ⟨ws, t, rfl, rfl, c, pa, er⟩
      · rw [r5_eq e4, if_neg c] at er
        exact iT (by rw [decide_eq_false (fun z => c (V.str.inj z))]; rfl) ⟨_, rfl, two, fun t nt => stop H4 j s4 e4 er t nt⟩
    rintro σ' H' ⟨ws, wt, rfl, rfl, c, paw, er⟩
    clear alt
    rw [r5_eq e4, if_pos c, drop_tail] at er
    have e5 := end_next e4 (by rw [c]; decide +kernel)
    -- the gives
    refine ⟨fun σ' H' => ∃ (j : Nat) (v : V), σ' = [some (.ref q), some (.int (j : Nat)), some (.ref D), some (.ref wt), some v] ∧ Same H H' ∧ H' D = some (.lst [.int k1, .int aa, .non]) ∧ PairsAt H' wt ws ∧ EndT (L.drop j) ∧ ((∃ gs t, v = .ref t ∧ PairsAt H' t gs ∧ rdRule (L.drop i) = rdR7 (k1 : Int) aa ws gs (L.drop j)) ∨ (v = .non ∧ rdRule (L.drop i) = .error (hdA (L.drop j)))), ?_, ?_⟩
    · refine ⟨_, rfl, _, rfl, _, _, rfl, rfl, q, us, L, j + 1, ?_, hq4, pr4, wf, e5, fun gs ts ep H' r v j' s' ets ee hrr hv => ?_, fun e ep H' r j' s' hh ee hrr => ?_⟩
      · show [V.ref q, V.int (((j : Nat) : Int) + 1)] = _
        rw [show ((j : Nat) : Int) + 1 = ((j + 1 : Nat) : Int) by omega]
      · obtain ⟨t, rfl, pa⟩ := hv
        refine ⟨r, _, rfl, SqT.of hrr, rfl, _, _, rfl, _, _, rfl, rfl, j', .ref t, rfl, s4.trans s', s' _ _ hD4, PairsAt.same s' paw, ets ▸ ee, .inl ⟨gs, t, rfl, pa, ?_⟩⟩
        rw [er]
        unfold rdR6
        rw [ep, ets]
      · refine ⟨r, _, rfl, SqT.of hrr, rfl, _, _, rfl, _, _, rfl, rfl, j', .non, rfl, s4.trans s', s' _ _ hD4, PairsAt.same s' paw, ee, .inr ⟨rfl, ?_⟩⟩
        rw [er]
        unfold rdR6
        rw [ep, hh]
    clear er e5 e4 ha4 ua4 hD4 hq4 pr4 s4 il4 c paw
    rintro σ' H5 ⟨j, v, rfl, s5, hD5, paw, e5, alt⟩
    have hq5 := s5 _ _ hq
    have pr5 := paired_mono (fun _ _ => TkAt.same s5) pr
    obtain ⟨a5, ua5, ha5, _, il5⟩ := tok_at pr5 e5
    refine ⟨fun σ' H' => ∃ gs t, σ' = [some (.ref q), some (.int (j : Nat)), some (.ref D), some (.ref wt), some (.ref t)] ∧ H5 = H' ∧ hdW (L.drop j) = "at" ∧ PairsAt H' t gs ∧ rdRule (L.drop i) = rdR7 (k1 : Int) aa ws gs (L.drop j), ?_, ?_⟩
    · refine ⟨_, rfl, rfl, _, rfl, ?_⟩
      rcases alt with ⟨gs, gt, rfl, pa, er⟩ | ⟨rfl, er⟩
      rotate_left
      · exact iT rfl (iT rfl ⟨_, rfl, _, rfl, rfl, _, rfl, iT rfl ⟨two, fun t nt => stop H5 j s5 e5 er t nt⟩⟩)
      refine iF rfl ?_
      refine ⟨_, rfl, _, rfl, q, _, _, _, rfl, rfl, SqL.of hq5, atI_nat ua5, a5, _, 0, _, rfl, rfl, SqT.of ha5, atI_nat (j := 0) rfl, rfl, _, rfl, ?_⟩
      by_cases c : hdW (L.drop j) = "at"
      · exact iF (by rw [decide_eq_true (congrArg V.str c)]; rfl) ⟨gs, gt, rfl, rfl, c, pa, er⟩
      · rw [r7_eq e5, if_neg c] at er
        refine iT (by rw [decide_eq_false (fun z => c (V.str.inj z))]; rfl) ⟨_, rfl, _, rfl, rfl, _, rfl, iF rfl ?_⟩
        refine ⟨_, rfl, D, _, 0, _, rfl, rfl, SqL.of hD5, atI_nat (j := 0) rfl, _, rfl, D, _, 1, _, rfl, rfl, SqL.of hD5, atI_nat (j := 1) rfl, _, rfl, _, rfl, (by show 6 ≤ sizeLine; decide), fun T nT => ⟨two, fun t nt => ?_⟩⟩
        have sT := same_upd (o := .tup [.str "each", .int (k1 : Int), .int aa, .ref wt, .ref gt, .non]) nT
        have hT : (upd H5 T (.tup [.str "each", .int (k1 : Int), .int aa, .ref wt, .ref gt, .non])) T = some (.tup [.str "each", .int (k1 : Int), .int aa, .ref wt, .ref gt, .non]) := upd_same
        generalize upd H5 T (.tup [.str "each", .int (k1 : Int), .int aa, .ref wt, .ref gt, .non]) = H6 at *
        have st := same_upd (o := .tup [.int (j : Nat), .ref T]) nt
        exact Qk _ _ er _ t (.ref T) j ((s5.trans sT).trans st) rfl e5 upd_same ⟨T, wt, gt, rfl, st _ _ hT, PairsAt.same (sT.trans st) paw, PairsAt.same (sT.trans st) pa⟩
    rintro σ' H' ⟨gs, gt, rfl, rfl, c, pag, er⟩
    clear alt
    rw [r7_eq e5, if_pos c, drop_tail] at er
    have e6 := end_next e5 (by rw [c]; decide +kernel)
    obtain ⟨a6, ua6, ha6, _, il6⟩ := tok_at pr5 e6
    -- most
    refine ⟨fun σ' H' => σ' = [some (.ref q), some (.int (j : Nat)), some (.ref D), some (.ref wt), some (.ref gt)] ∧ H5 = H' ∧ hdW (L.drop (j + 1)) = "most", ?_, ?_⟩
    · refine ⟨_, rfl, _, rfl, _, _, rfl, rfl, q, _, _, _, rfl, rfl, SqL.of hq5, ixS ua6, a6, _, 0, _, rfl, rfl, SqT.of ha6, atI_nat (j := 0) rfl, rfl, _, rfl, ?_⟩
      by_cases c : hdW (L.drop (j + 1)) = "most"
      · exact iF (by rw [decide_eq_true (congrArg V.str c)]; rfl) ⟨rfl, rfl, c⟩
      · rw [if_neg c] at er
        exact iT (by rw [decide_eq_false (fun z => c (V.str.inj z))]; rfl) ⟨_, rfl, _, _, rfl, rfl, two, fun t nt => by
          have := stop H5 (j + 1) s5 e6 er t nt
          rwa [show ((j + 1 : Nat) : Int) = ((j : Nat) : Int) + 1 by omega] at this⟩
    rintro σ' H' ⟨rfl, rfl, c6⟩
    rw [if_pos c6, drop_tail] at er
    have e7 := end_next e6 (by rw [c6]; decide +kernel)
    obtain ⟨a7, ua7, ha7, hin7, il7⟩ := tok_at pr5 e7
    have tk7 := wf.tk _ hin7
    have lw7 := wf.len _ hin7
    have ixT : ∀ {xs : List V} {v : V}, xs[j + 1 + 1]? = some v → atI xs (((j : Nat) : Int) + 2) = some v := fun h => by
      rw [show ((j : Nat) : Int) + 2 = ((j + 1 + 1 : Nat) : Int) by omega]; exact atI_nat h
    refine ⟨fun σ' H' => σ' = [some (.ref q), some (.int (j : Nat)), some (.ref D), some (.ref wt), some (.ref gt)] ∧ H5 = H' ∧ hdW (L.drop (j + 1 + 1)) ∈ numL 1 6, ?_, ?_⟩
    · refine ⟨_, rfl, _, rfl, _, _, rfl, rfl, q, _, _, _, rfl, rfl, SqL.of hq5, ixT ua7, a7, _, _, 1, 6, rfl, ha7, tk7, lw7, by decide, by decide, _, rfl, ?_⟩
      by_cases c : hdW (L.drop (j + 1 + 1)) ∈ numL 1 6
      · exact iF (by rw [decide_eq_true c]; rfl) ⟨rfl, rfl, c⟩
      · rw [if_neg c] at er
        exact iT (by rw [decide_eq_false c]; rfl) ⟨_, rfl, _, _, rfl, rfl, two, fun t nt => by
          have := stop H5 (j + 1 + 1) s5 e7 er t nt
          rwa [show ((j + 1 + 1 : Nat) : Int) = ((j : Nat) : Int) + 2 by omega] at this⟩
    rintro σ' H' ⟨rfl, rfl, c7⟩
    rw [if_pos c7, drop_tail] at er
    have e8 := end_next e7 (fun z => numL_ne (lo := 1) (hi := 6) (by decide) (z ▸ c7))
    obtain ⟨k7, en7, l7⟩ := numL_int c7 (by decide) (by decide)
    rw [en7] at er
    have er : rdRule (L.drop i) = .ok (⟨k1, aa, some (k7 : Int), ws, gs⟩, L.drop (j + 1 + 1 + 1)) := er
    refine ⟨_, rfl, _, _, rfl, rfl, _, rfl, D, _, 0, _, rfl, rfl, SqL.of hD5, atI_nat (j := 0) rfl, _, rfl, D, _, 1, _, rfl, rfl, SqL.of hD5, atI_nat (j := 1) rfl, _, rfl, _, rfl, _, rfl, _, rfl, _, _, rfl, rfl, q, _, _, _, rfl, rfl, SqL.of hq5, ixT ua7, a7, _, 0, _, rfl, rfl, SqT.of ha7, atI_nat (j := 0) rfl, _, _, rfl, en7, l7, (by show 6 ≤ sizeLine; decide), fun T nT => ⟨two, fun t nt => ?_⟩⟩
    have sT := same_upd (o := .tup [.str "each", .int (k1 : Int), .int aa, .ref wt, .ref gt, .int (k7 : Int)]) nT
    have hT : (upd H5 T (.tup [.str "each", .int (k1 : Int), .int aa, .ref wt, .ref gt, .int (k7 : Int)])) T = some (.tup [.str "each", .int (k1 : Int), .int aa, .ref wt, .ref gt, .int (k7 : Int)]) := upd_same
    generalize upd H5 T (.tup [.str "each", .int (k1 : Int), .int aa, .ref wt, .ref gt, .int (k7 : Int)]) = H6 at *
    have st := same_upd (o := .tup [.int (((j : Nat) : Int) + 3), .ref T]) nt
    refine Qk _ _ er _ t (.ref T) (j + 1 + 1 + 1) ((s5.trans sT).trans st) rfl e8 ?_ ⟨T, wt, gt, rfl, st _ _ hT, PairsAt.same (sT.trans st) paw, PairsAt.same (sT.trans st) pag⟩
    show (upd H6 t (.tup [.int (((j : Nat) : Int) + 3), .ref T])) t = _
    rw [upd_same, show ((j : Nat) : Int) + 3 = ((j + 1 + 1 + 1 : Nat) : Int) by omega]
end
end Hl

set_option Elab.async false
set_option linter.all false
set_option maxRecDepth 100000
set_option maxHeartbeats 4000000
/-! _law_reading -/
namespace Hl
open PySem PySem.Spec PyProof.Rows L2 Tk
abbrev sRdg : Stmt := topS 56
/-- what is read when a rule comes next -/
def rdLoopR (n : Nat) (done : List Rl) (ts : List Tok) : Except Nat (List Rl) :=
  match rdRule ts with
  | .error e => .error e
  | .ok (r, t1) => rdMoreR n (done ++ [r]) t1
theorem all_start (ts : List Tok) : rdAll ts = rdLoopR 11 [] ts := rfl
theorem more_eq {n : Nat} {rs : List Rl} {ts : List Tok} (e : EndT ts) : rdMoreR n rs ts = if hdW ts = "" then .ok rs else (if hdW ts = ";" ∧ n ≠ 0 then rdLoopR (n - 1) rs ts.tail else .error (hdA ts)) := by
  cases n with
  | zero =>
    show (if hdW ts = "" then _ else _) = _
    by_cases h : hdW ts = ""
    · rw [if_pos h, if_pos h]
    · rw [if_neg h, if_neg h, if_neg (fun z => z.2 rfl)]
  | succ n =>
    show (if hdW ts = "" then _ else _) = _
    by_cases h : hdW ts = ""
    · rw [if_pos h, if_pos h]
    · rw [if_neg h, if_neg h, one_eq e]
      by_cases c : hdW ts = ";"
      · rw [if_pos c, if_pos ⟨c, by omega⟩]
        rfl
      · rw [if_neg c, if_neg (fun z => c z.1)]
/-- the names of a rule's pairs at a place -/
def nmR (r : Rl) (pl : Int) : List Str := (if pl = 3 then r.ws else r.gs).map (·.1)
/-- names that are few, each once in a rule -/
def NmOk (rs : List Rl) : Prop := ∃ S : List Str, S.length ≤ 63 ∧ ∀ r ∈ rs, ∀ pl : Int, (nmR r pl).Nodup ∧ ∀ x ∈ nmR r pl, x ∈ S
/-- all names of rules at a place -/
def NmsOf (rs : List Rl) (pl : Int) (fs : List Str) : Prop := fs.Nodup ∧ ∀ x, x ∈ fs ↔ ∃ r ∈ rs, x ∈ nmR r pl
theorem NmsOf.len {rs : List Rl} {pl : Int} {fs gs : List Str} (h1 : NmsOf rs pl fs) (h2 : NmsOf rs pl gs) : fs.length = gs.length :=
  ((List.perm_ext_iff_of_nodup h1.1 h2.1).mpr fun x => (h1.2 x).trans (h2.2 x).symm).length_eq
def BigP (rs : List Rl) (pl : Int) : Prop := ∃ fs, NmsOf rs pl fs ∧ 3 < fs.length
def Big (rs : List Rl) : Prop := BigP rs 3 ∨ BigP rs 4
theorem nodup_subL {α : Type} [DecidableEq α] : ∀ {l m : List α}, l.Nodup → (∀ x ∈ l, x ∈ m) → l.length ≤ m.length
  | [], _, _, _ => Nat.zero_le _
  | x :: l, m, n, h => by
    obtain ⟨n1, n2⟩ := List.nodup_cons.mp n
    have := nodup_subL (m := m.erase x) n2 fun y hy => (List.mem_erase_of_ne (fun (e : y = x) => n1 (e ▸ hy))).mpr (h y (List.mem_cons_of_mem _ hy))
    rw [List.length_erase_of_mem (h x List.mem_cons_self)] at this
    have := List.length_pos_of_mem (h x List.mem_cons_self)
    rw [List.length_cons]
    omega
theorem pcs_mem : ∀ (n a : Nat) (s : List Nat), ∀ p ∈ pcs n a s, ∀ c ∈ p.2, c ∈ s
  | 0, a, s, p, h, c, hc => by
    rw [List.mem_singleton.mp h] at hc
    cases hc
  | n + 1, a, [], p, h, c, hc => by
    rw [List.mem_singleton.mp h] at hc
    cases hc
  | n + 1, a, d :: s, p, h, c, hc => by
    rw [pcs_cons] at h
    rcases List.mem_append.mp h with h | h
    · split at h
      · cases h
      · rw [List.mem_singleton.mp h] at hc
        rcases List.mem_cons.mp hc with rfl | hc
        · exact List.mem_cons_self
        · exact List.mem_cons_of_mem _ (List.mem_of_mem_take hc)
    · exact List.mem_cons_of_mem _ (List.mem_of_mem_drop (pcs_mem n _ _ p h c hc))
theorem wf_toks {z : Str} (h : z.length ≤ 900000) (asc : ∀ c ∈ z.cps.toList, c < 128) : WfL (toks z) where
  tk := fun t ht => toks_tk ht
  asc := fun t ht c hc => by
    obtain ⟨p, hp, rfl⟩ := List.mem_map.mp ht
    exact asc c (pcs_mem _ _ _ p hp c hc)
  len := fun t ht => by
    obtain ⟨p, hp, rfl⟩ := List.mem_map.mp ht
    have := (pcs_small _ _ _ p hp).2
    have lz : z.cps.toList.length = z.length := by simp [Str.length]
    show (mkS p.2).length ≤ _
    rw [mkS_len]
    omega
  pl := fun t ht => (toks_small (Nat.le_trans h (by decide)) t ht).1
  n := by
    have e := fold_toks z
    have l := congrArg List.length e
    rw [List.length_append, List.length_map] at l
    have := fold_len z.cps.toList [] 0
    have lz : z.cps.toList.length = z.length := by simp [Str.length]
    unfold toks
    rw [List.length_map, ← l]
    show _ + 1 ≤ _
    rw [List.length_nil] at this
    omega
/-- what the law reads -/
def RdgAt (H : Hp) (v : V) (z : Str) : Prop := ∃ a, v = .ref a ∧ match rdAll (toks z) with
  | .error e => H a = some (.tup [.str "BadText", .int (e : Nat)])
  | .ok rs => (Big rs ∧ H a = some (.tup [.str "BadSize"])) ∨ (¬ Big rs ∧ ∃ l ds, H a = some (.tup [.str "told", .ref l]) ∧ H l = some (.lst ds) ∧ Paired (RuleAt H) ds rs)
theorem RuleAt.same {H H' : Hp} {v : V} {r : Rl} (s : Same H H') (h : RuleAt H v r) : RuleAt H' v r := h.ki (Ki.of s)
section
variable {P : Program} {w : World} {K : PySem.W.Frag} {mg : Str → Option Value} {base : Heap}
def spRdg : Sp := fun vs H Q _ => ∃ z : Str, vs = [.str z] ∧ z.length ≤ 900000 ∧ (∀ c ∈ z.cps.toList, c < 128) ∧ (∀ rs, rdAll (toks z) = .ok rs → NmOk rs) ∧ ∀ (H' : Hp) (v : V), Same H H' → RdgAt H' v z → Q v H'
abbrev nmRdg : List Str := ["_law_text", "_law_tokens_here", "_law_at", "_law_found", "_law_rule", "_law_place", "_law_names_here", "_law_name", "_law_size"]
theorem scRdg : FnScope nmRdg ["_law_text"] (defScope sRdg) := ⟨rfl, rfl, rfl, by decide +kernel, rfl, by decide +kernel, by decide +kernel⟩
theorem ok_rdg {f fT fR : Addr} {fd dT dR : FuncData} {k : Nat} (F : Fun K "_law_reading" "_law_reading" sRdg f fd) (B : Bi mg) (Tk : Has P w K mg base k "_law_tokens" ["_law_text"] spTks fT dT) (Rn : Has P w K mg base k "_law_rule_end" ["_law_tokens_here", "_law_at"] spRnd fR dR) : FnOk P w K mg base CX0 (k + 1) f fd ["_law_text"] spRdg := by
  refine F.ok scRdg (fun vs H Q E h => ?_) (fun cdv A outer s H vs Q E hr h => ?_)
  · obtain ⟨z, rfl, _⟩ := h
    rfl
  · obtain ⟨z, rfl, hl, asc, nmo, q⟩ := h
    refine ⟨_, (pss_cons (ps_set (i := 1) scRdg.nd rfl (.inl rfl) (pe_call Tk.G hr (by rfl) Tk.g Tk.kp Tk.b .nil pass0 (pa_cons (pv 0) pa_nil)))
        (pss_cons (ps_par (i := 2) (j := 3) rfl scRdg.nd rfl rfl (by decide) rfl rfl (pa_cons pe_int (pa_cons (pe_lst pa_nil) pa_nil)) rfl)
        (Evl.pss_cut (ps_while PassesOwn.never (pt_val pe_bl) (Evl.pss_cut (ps_asg (pe_call Rn.G hr (by rfl) Rn.g Rn.kp Rn.b .nil pass0 (pa_cons (pv 1) (pa_cons (pv 2) pa_nil))) (pg_tup rfl (pgs_cons (pg_name (i := 2) scRdg.nd rfl (.inl rfl)) (pgs_cons (pg_name (i := 4) scRdg.nd rfl (.inl rfl)) pgs_nil))))
        (Evl.pss_cut (ps_if (pt_cmpR op_isN (pv 4) pe_non (nomark _)) (pss_one (ps_ret (pe_tup (pa_cons pe_str (pa_cons (pe_ix ix_tup (pe_ix (r := rIxL K) ix_list (pv 1) (pv 2) (fun _ _ => rfl)) pe_int (fun _ _ => rfl)) pa_nil))))) pss_nil)
        (pss_cons (ps_expr (pe_bm PySem.F.plainAttrs_list PySem.F.slot_list_append PySem.F.type_list_append mt_append (pv 3) (pa_cons (pv 4) pa_nil)))
        (pss_cons (ps_if (pt_cmpR op_eq (pe_ix ix_tup (pe_ix (r := rIxL K) ix_list (pv 1) (pv 2) (fun _ _ => rfl)) pe_int (fun _ _ => rfl)) pe_str (nomark _)) (pss_one ps_break) pss_nil)
        (Evl.pss_cut (ps_if (PW.pt (pw_or (pt_cmpR op_ne (pe_ix ix_tup (pe_ix (r := rIxL K) ix_list (pv 1) (pv 2) (fun _ _ => rfl)) pe_int (fun _ _ => rfl)) pe_str (nomark _)) (pw_or1 (pt_cmpR op_eq (pe_callB call_len_seq (by rfl) B.len PySem.boot_len (pa_cons (pv 3) pa_nil)) pe_int (nomark _))))) (pss_one (ps_ret (pe_tup (pa_cons pe_str (pa_cons (pe_ix ix_tup (pe_ix (r := rIxL K) ix_list (pv 1) (pv 2) (fun _ _ => rfl)) pe_int (fun _ _ => rfl)) pa_nil))))) pss_nil)
        (pss_one (ps_set (i := 2) scRdg.nd rfl (.inl rfl) (pe_op op_add (pv 2) pe_int)))))))))
        (Evl.pss_cut (ps_for PassesOwn.never rfl (pi_tup (pe_tup (pa_cons pe_int (pa_cons pe_int pa_nil)))) (pg_name (i := 5) scRdg.nd rfl (.inl rfl))
          (Evl.pss_cut (ps_set (i := 6) scRdg.nd rfl (.inr rfl) (pe_lst pa_nil))
        (Evl.pss_cut (ps_for PassesOwn.never rfl (pi_list (pv 3)) (pg_name (i := 4) scRdg.nd rfl (.inl rfl))
          (pss_one (ps_set (i := 6) scRdg.nd rfl (.inr rfl) (pe_op op_cat (pv 6) (pe_lc (own := [("_law_name", 7), ("_law_size", 8)]) (g := gTup K 2 (gCons (gName 7) (gCons (gName 8) gNil))) (tt := (tTest (tOp (rIn K true) (tVar 7) (tVar 6)))) rfl scRdg.nd (pi_tup (pe_ix ix_tup (pv 4) (pv 5) (fun _ _ => rfl))) (blkOk_by (own := [("_law_name", 7), ("_law_size", 8)]) (N := nmRdg) (sc := defScope sRdg) (by decide +kernel)) (fun _ _ _ _ _ => (pg_tup rfl (pgs_cons (pg_name (i := 7) scRdg.nd rfl (Or.inl rfl)) (pgs_cons (pg_name (i := 8) scRdg.nd rfl (Or.inl rfl)) pgs_nil)))) (fun _ _ _ _ _ => (pts_one (pt_cmpR op_notIn_seq (pv 7) (pv 6) (by rfl)))) (fun _ _ _ _ _ => (pv 7)))))))
        (pss_one (ps_if (pt_cmpR op_gt (pe_callB call_len_seq (by rfl) B.len PySem.boot_len (pa_cons (pv 6) pa_nil)) pe_int (nomark _)) (pss_one (ps_ret (pe_tup (pa_cons pe_str pa_nil)))) pss_nil)))))
        (pss_one (ps_ret (pe_tup (pa_cons pe_str (pa_cons (pv 3) pa_nil))))))))), ?_⟩
    have two : 2 ≤ sizeLine := by decide
    have wf := wf_toks hl asc
    have en := toks_end z
    refine ⟨_, rfl, z, rfl, hl, asc, fun H1 tq us s1 ntq htq pr => ?_⟩
    generalize hL : toks z = L at *
    refine ⟨Nat.zero_le _, fun D nD => ⟨_, _, rfl, ?_⟩⟩
    have sD := same_upd (o := .lst []) nD
    have hD : (upd H1 D (.lst [])) D = some (.lst ([] : List V)) := upd_same
    have nDt : D ≠ tq := ne_of_fresh htq nD
    have nD0 := s1.free nD
    have s2 := s1.trans sD
    have ht2 := sD _ _ htq
    have pr2 := paired_mono (fun _ _ => TkAt.same sD) pr
    generalize upd H1 D (.lst []) = H2 at *
    have lus : us.length ≤ 900001 := by rw [pr.length]; exact wf.n
    have tup2 : ∀ {H' : Hp}, (∀ x o, x ≠ D → H2 x = some o → H' x = some o) → ∀ {x : Addr} {xs : List V}, H2 x = some (.tup xs) → H' x = some (.tup xs) := fun {H'} k {x xs} e => k x _ (fun z => by rw [z, hD] at e; cases e) e
    have prK : ∀ {H' : Hp}, (∀ x o, x ≠ D → H2 x = some o → H' x = some o) → Paired (TkAt H') us L := fun k => paired_mono (fun v t ⟨a, e, h⟩ => ⟨a, e, tup2 k h⟩) pr2
    have smK : ∀ {H' : Hp}, (∀ x o, x ≠ D → H2 x = some o → H' x = some o) → Same H H' := fun {H'} k x o h => k x o (fun z => by rw [z, nD0] at h; cases h) (s2 x o h)
    -- a refusal of the law's
    have bad : ∀ (H3 : Hp) (j : Nat), Same H H3 → rdAll L = .error (hdA (L.drop j)) → ∀ t, H3 t = none → Q (.ref t) (upd H3 t (.tup [.str "BadText", .int (hdA (L.drop j) : Nat)])) := fun H3 j s3 er t nt => by
      refine q _ _ (s3.trans (same_upd nt)) ⟨t, rfl, ?_⟩
      rw [hL, er]
      exact upd_same
    refine ⟨fun σ' H' => ∃ (i : Nat) (rs : List Rl) (ds : List V) (v4 : Option V), σ' = [some (.str z), some (.ref tq), some (.int (i : Nat)), some (.ref D), v4, none, none, none, none] ∧ Same H H' ∧ H' D = some (.lst ds) ∧ Paired (RuleAt H') ds rs ∧ rdAll L = .ok rs ∧ rs.length ≤ 12, ?_, ?_⟩
    · refine ⟨fun m σ H' => ∃ (i : Nat) (done : List Rl) (ds : List V) (v4 : Option V), σ = [some (.str z), some (.ref tq), some (.int (i : Nat)), some (.ref D), v4, none, none, none, none] ∧ (∀ x o, x ≠ D → H2 x = some o → H' x = some o) ∧ H' D = some (.lst ds) ∧ Paired (RuleAt H') ds done ∧ EndT (L.drop i) ∧ done.length + m = 11 ∧ rdAll L = rdLoopR m done (L.drop i), ⟨11, 0, [], [], none, rfl, fun _ _ _ e => e, hD, .nil, en, rfl, rfl⟩, ?_⟩
      rintro n σ H3 ⟨i, done, ds, v4, rfl, k3, hD3, pd, ei, ld, eR⟩
      refine ⟨true, rfl, iT rfl ?_⟩
      refine ⟨fun σ' H' => ∃ m', m' < n ∧ ∃ (i : Nat) (done : List Rl) (ds : List V) (v4 : Option V), σ' = [some (.str z), some (.ref tq), some (.int (i : Nat)), some (.ref D), v4, none, none, none, none] ∧ (∀ x o, x ≠ D → H2 x = some o → H' x = some o) ∧ H' D = some (.lst ds) ∧ Paired (RuleAt H') ds done ∧ EndT (L.drop i) ∧ done.length + m' = 11 ∧ rdAll L = rdLoopR m' done (L.drop i), fun _ _ h => h, ?_⟩
      have htq3 := k3 _ _ nDt.symm ht2
      have pr3 := prK k3
      have kOf : ∀ {H' : Hp}, Same H3 H' → ∀ x o, x ≠ D → H2 x = some o → H' x = some o := fun s x o n h => s _ _ (k3 x o n h)
      -- a rule
      refine ⟨fun σ' H' => ∃ (j : Nat) (v : V), σ' = [some (.str z), some (.ref tq), some (.int (j : Nat)), some (.ref D), some v, none, none, none, none] ∧ Same H3 H' ∧ EndT (L.drop j) ∧ ((∃ r, RuleAt H' v r ∧ rdAll L = rdMoreR n (done ++ [r]) (L.drop j)) ∨ (v = .non ∧ rdAll L = .error (hdA (L.drop j)))), ?_, ?_⟩
      · refine ⟨_, rfl, _, rfl, tq, us, L, i, rfl, htq3, pr3, wf, ei, fun r ts ep H' rr v j s' ets ee hrr hv => ?_, fun e ep H' rr j s' hh ee hrr => ?_⟩
        · refine ⟨rr, _, rfl, SqT.of hrr, rfl, _, _, rfl, _, _, rfl, rfl, j, v, rfl, s', ets ▸ ee, .inl ⟨r, hv, ?_⟩⟩
          rw [eR]
          unfold rdLoopR
          rw [ep, ets]
        · refine ⟨rr, _, rfl, SqT.of hrr, rfl, _, _, rfl, _, _, rfl, rfl, j, .non, rfl, s', ee, .inr ⟨rfl, ?_⟩⟩
          rw [eR]
          unfold rdLoopR
          rw [ep, hh]
      rintro σ' H4 ⟨j, v, rfl, s4, ej, alt⟩
      have htq4 := s4 _ _ htq3
      have pr4 := paired_mono (fun _ _ => TkAt.same s4) pr3
      obtain ⟨a4, ua4, ha4, _, il4⟩ := tok_at pr4 ej
      have sm4 := smK (kOf s4)
      refine ⟨fun σ' H' => ∃ (r : Rl), σ' = [some (.str z), some (.ref tq), some (.int (j : Nat)), some (.ref D), some v, none, none, none, none] ∧ H4 = H' ∧ RuleAt H' v r ∧ rdAll L = rdMoreR n (done ++ [r]) (L.drop j), ?_, ?_⟩
      · refine ⟨_, rfl, rfl, _, rfl, ?_⟩
        rcases alt with ⟨r, hv, er⟩ | ⟨rfl, er⟩
        · obtain ⟨t, wt, gt, rfl, ht, h1, h2⟩ := hv
          exact iF rfl ⟨r, rfl, rfl, ⟨t, wt, gt, rfl, ht, h1, h2⟩, er⟩
        · refine iT rfl ?_
          refine ⟨_, rfl, _, rfl, tq, _, _, _, rfl, rfl, SqL.of htq4, atI_nat ua4, a4, _, 1, _, rfl, rfl, SqT.of ha4, atI_nat (j := 1) rfl, two, fun t nt => bad H4 j sm4 er t nt⟩
      rintro σ' H' ⟨r, rfl, rfl, hv, er⟩
      clear alt
      have hD4 := s4 _ _ hD3
      have pd4 := paired_mono (fun _ _ => RuleAt.same s4) pd
      have lds := pd.length
      refine ⟨_, rfl, .inl ⟨rfl, _, Or.inl (Or.inl hD4)⟩, _, rfl, D, ds, _, rfl, rfl, hD4, (by rw [lds]; show done.length < 16777216; omega), ?_⟩
      have k5 : ∀ x o, x ≠ D → H2 x = some o → (upd H4 D (.lst (ds ++ [v]))) x = some o := fun x o n h => by
        rw [upd_ne n]; exact s4 _ _ (k3 x o n h)
      have hD5 : (upd H4 D (.lst (ds ++ [v]))) D = some (.lst (ds ++ [v])) := upd_same
      have pd5 : Paired (RuleAt (upd H4 D (.lst (ds ++ [v])))) (ds ++ [v]) (done ++ [r]) := paired_snoc (paired_mono (fun _ _ h => RuleAt.put h hD4) pd4) (RuleAt.put hv hD4)
      generalize upd H4 D (.lst (ds ++ [v])) = H5 at *
      have htq5 := k5 _ _ nDt.symm ht2
      have pr5 := prK k5
      have sm5 := smK k5
      obtain ⟨a5, ua5, ha5, _, il5⟩ := tok_at pr5 ej
      have l5 : (ds ++ [v]).length = done.length + 1 := by rw [List.length_append, lds]; rfl
      rw [more_eq ej] at er
      refine ⟨_, rfl, _, rfl, tq, _, _, _, rfl, rfl, SqL.of htq5, atI_nat ua5, a5, _, 0, _, rfl, rfl, SqT.of ha5, atI_nat (j := 0) rfl, rfl, _, rfl, ?_⟩
      by_cases c : hdW (L.drop j) = ""
      · rw [if_pos c] at er
        refine iT (by exact decide_eq_true (congrArg V.str c)) ?_
        exact ⟨j, done ++ [r], ds ++ [v], _, rfl, sm5, hD5, pd5, er, by rw [List.length_append]; show done.length + 1 ≤ 12; omega⟩
      refine iF (by exact decide_eq_false (fun z => c (V.str.inj z))) ?_
      rw [if_neg c] at er
      -- what comes next
      refine ⟨fun σ' H' => σ' = [some (.str z), some (.ref tq), some (.int (j : Nat)), some (.ref D), some v, none, none, none, none] ∧ H5 = H' ∧ hdW (L.drop j) = ";" ∧ n ≠ 0, ?_, ?_⟩
      · refine ⟨_, rfl, _, rfl, tq, _, _, _, rfl, rfl, SqL.of htq5, atI_nat ua5, a5, _, 0, _, rfl, rfl, SqT.of ha5, atI_nat (j := 0) rfl, rfl, _, rfl, ?_⟩
        by_cases c1 : hdW (L.drop j) = ";"
        rotate_left
        · rw [if_neg (fun z => c1 z.1)] at er
          refine iT (by rw [decide_eq_false (fun z => c1 (V.str.inj z))]; rfl) (iT rfl ?_)
          exact ⟨_, rfl, _, rfl, tq, _, _, _, rfl, rfl, SqL.of htq5, atI_nat ua5, a5, _, 1, _, rfl, rfl, SqT.of ha5, atI_nat (j := 1) rfl, two, fun t nt => bad H5 j sm5 er t nt⟩
        refine iF (by rw [decide_eq_true (congrArg V.str c1)]; rfl) ?_
        refine ⟨_, rfl, D, _, rfl, .inl (SqL.of hD5), rfl, _, rfl, ?_⟩
        by_cases n0 : n = 0
        · rw [if_neg (fun z => z.2 n0)] at er
          refine iT (decide_eq_true (by rw [l5]; show V.int ((done.length + 1 : Nat) : Int) = V.int 12; rw [show done.length + 1 = 12 by omega]; rfl)) ?_
          exact ⟨_, rfl, _, rfl, tq, _, _, _, rfl, rfl, SqL.of htq5, atI_nat ua5, a5, _, 1, _, rfl, rfl, SqT.of ha5, atI_nat (j := 1) rfl, two, fun t nt => bad H5 j sm5 er t nt⟩
        · exact iF (decide_eq_false (by rw [l5]; intro z; have := V.int.inj z; omega)) ⟨rfl, rfl, c1, n0⟩
      rintro σ' H' ⟨rfl, rfl, c1, n0⟩
      rw [if_pos ⟨c1, n0⟩, drop_tail] at er
      refine ⟨_, rfl, _, _, rfl, rfl, n - 1, by omega, j + 1, done ++ [r], ds ++ [v], some v, ?_, k5, hD5, pd5, end_next ej (by rw [c1]; decide +kernel), by rw [List.length_append]; show done.length + 1 + _ = 11; omega, er⟩
      show [some (V.str z), some (.ref tq), some (V.int (((j : Nat) : Int) + 1)), some (.ref D), some v, none, none, none, none] = _
      rw [show ((j : Nat) : Int) + 1 = ((j + 1 : Nat) : Int) by omega]
    rintro σ' H3 ⟨i, rs, ds, v4, rfl, s3, hD3, pd, eR, l12⟩
    -- the names
    obtain ⟨S, ls, hS⟩ := nmo rs eR
    have lds := pd.length
    refine ⟨fun σ' H' => ∃ (v4 v5 v6 : Option V), σ' = [some (.str z), some (.ref tq), some (.int (i : Nat)), some (.ref D), v4, v5, v6, none, none] ∧ Same H3 H' ∧ ¬ Big rs, ?_, ?_⟩
    rotate_left
    · rintro σ' H4 ⟨v4, v5, v6, rfl, s4, nb⟩
      refine ⟨_, rfl, two, fun t nt => ?_⟩
      have s5 := s4.trans (same_upd (o := .tup [.str "told", .ref D]) nt)
      refine q _ _ (s3.trans s5) ⟨t, rfl, ?_⟩
      rw [hL, eR]
      exact .inr ⟨nb, D, ds, upd_same, s5 _ _ hD3, paired_mono (fun _ _ => RuleAt.same s5) pd⟩
    refine ⟨two, fun T nT => ?_⟩
    have sT := same_upd (o := .tup [.int 3, .int 4]) nT
    have hT : (upd H3 T (.tup [.int 3, .int 4])) T = some (.tup [.int 3, .int 4]) := upd_same
    refine ⟨T, rfl, ⟨_, SqT.of hT⟩, ?_⟩
    generalize upd H3 T (.tup [.int 3, .int 4]) = H4 at *
    refine for_tup (K := K) (a := T) (xs := [.int 3, .int 4]) (fun j σ' H' => ∃ (v4 v5 v6 : Option V), σ' = [some (.str z), some (.ref tq), some (.int (i : Nat)), some (.ref D), v4, v5, v6, none, none] ∧ Same H4 H' ∧ (1 ≤ j → ¬ BigP rs 3) ∧ (2 ≤ j → ¬ BigP rs 4)) ⟨v4, none, none, rfl, fun _ _ h => h, fun h => absurd h (by omega), fun h => absurd h (by omega)⟩ (fun _ _ _ _ ⟨_, _, _, _, s, _⟩ => SqT.of (s _ _ hT)) ?_ ?_
    rotate_left
    · rintro σ' H' ⟨v4, v5, v6, rfl, s, n3, n4⟩
      exact ⟨v4, v5, v6, rfl, sT.trans s, fun h => h.elim (n3 (by decide)) (n4 (by decide))⟩
    rintro j x σ' H5 hx ⟨v4, v5, v6, rfl, s5, n3, n4⟩
    obtain ⟨pl, rfl, hpl⟩ : ∃ pl : Int, x = .int pl ∧ ((j = 0 ∧ pl = 3) ∨ (j = 1 ∧ pl = 4)) := by
      match j, hx with
      | 0, h => exact ⟨3, (Option.some.inj h).symm, .inl ⟨rfl, rfl⟩⟩
      | 1, h => exact ⟨4, (Option.some.inj h).symm, .inr ⟨rfl, rfl⟩⟩
    have ll : ∀ (fs : List Str), (∀ x ∈ fs, x ∈ S) → fs.Nodup → fs.length ≤ 63 := fun fs h n => Nat.le_trans (nodup_subL n h) ls
    refine ⟨fun σ' H' => ∃ (v4 : Option V) (u : Addr), σ' = [some (.str z), some (.ref tq), some (.int (i : Nat)), some (.ref D), v4, some (.int pl), some (.ref u), none, none] ∧ Same H5 H' ∧ H' u = some (.lst []), ?_, ?_⟩
    · exact ⟨Nat.zero_le _, fun u nu => ⟨v4, u, rfl, same_upd nu, upd_same⟩⟩
    rintro σ' H6 ⟨v4, u0, rfl, s6, hu0⟩
    have s36 := (sT.trans s5).trans s6
    refine ⟨fun σ' H' => ∃ (v4 : Option V) (u : Addr) (fs : List Str), σ' = [some (.str z), some (.ref tq), some (.int (i : Nat)), some (.ref D), v4, some (.int pl), some (.ref u), none, none] ∧ Same H6 H' ∧ H' u = some (.lst (fs.map V.str)) ∧ NmsOf rs pl fs, ?_, ?_⟩
    · have hD6 := s36 _ _ hD3
      have pd6 := paired_mono (fun _ _ => RuleAt.same s36) pd
      refine ⟨_, rfl, D, rfl, ⟨_, SqL.of hD6⟩, ?_⟩
      refine for_list (K := K) (a := D) (xs := ds) (fun j σ' H' => ∃ (v4 : Option V) (u : Addr) (fs : List Str), σ' = [some (.str z), some (.ref tq), some (.int (i : Nat)), some (.ref D), v4, some (.int pl), some (.ref u), none, none] ∧ Same H6 H' ∧ H' u = some (.lst (fs.map V.str)) ∧ NmsOf (rs.take j) pl fs)
        ⟨v4, u0, [], rfl, fun _ _ h => h, hu0, List.nodup_nil, fun x => ⟨fun h => absurd h List.not_mem_nil, fun ⟨r, hr, _⟩ => by rw [List.take_zero] at hr; exact absurd hr List.not_mem_nil⟩⟩ (fun _ _ _ _ ⟨_, _, _, _, s, _⟩ => SqL.of (s _ _ hD6)) ?_ ?_
      rotate_left
      · rintro σ' H' ⟨v4, u, fs, rfl, s, hu, nm⟩
        rw [lds, List.take_length] at nm
        exact ⟨v4, u, fs, rfl, s, hu, nm⟩
      rintro k x σ' H7 hx ⟨v4, u, fs, rfl, s7, hu, nm⟩
      obtain ⟨r, hr', ra⟩ := paired_get pd6 k x hx
      have hrm : r ∈ rs := List.mem_of_getElem? hr'
      obtain ⟨prn, prS⟩ := hS r hrm pl
      have fl := ll fs (fun x hx => by
        obtain ⟨r', h1, h2⟩ := (nm.2 x).mp hx
        exact (hS r' (List.mem_of_mem_take h1) pl).2 x h2) nm.1
      obtain ⟨t, wt', gt, rfl, ht, hw, hg⟩ := ra
      obtain ⟨pt, vs, ps, hget, hps, hpp, eps⟩ : ∃ (pt : Addr) (vs : List V) (ps : List (Str × Int)), atI [V.str "each", .int r.e, .int r.a, .ref wt', .ref gt, moV r.m] pl = some (.ref pt) ∧ TupN H6 pt vs ∧ Paired (PairAt H6) vs ps ∧ nmR r pl = ps.map (·.1) := by
        rcases hpl with ⟨_, rfl⟩ | ⟨_, rfl⟩
        · obtain ⟨vs, h1, h2⟩ := hw
          exact ⟨wt', vs, r.ws, atI_nat (j := 3) rfl, h1, h2, rfl⟩
        · obtain ⟨vs, h1, h2⟩ := hg
          exact ⟨gt, vs, r.gs, atI_nat (j := 4) rfl, h1, h2, rfl⟩
      have lv := hpp.length
      rw [eps] at prn prS
      have lps : ps.length ≤ 63 := by
        have := ll _ prS prn
        rwa [List.length_map] at this
      refine ⟨_, rfl, _, rfl, _, rfl, t, _, pl, _, rfl, rfl, SqT.of (s7 _ _ ht), hget, pt, rfl, ⟨_, .inl (hps.same s7).rd⟩, fun D2 nD2 => ?_⟩
      have sD2 := same_upd (o := .lst []) nD2
      refine lc_tup (K := K) (a := pt) (xs := vs) (fun i H' => Same H7 H' ∧ H' D2 = some (.lst (((ps.take i).map (·.1)).filter (fun x => decide (x ∉ fs)) |>.map V.str))) ⟨sD2, upd_same⟩ (fun i H' _ ⟨sm', _⟩ => .inl (hps.same (s7.trans sm')).rd) ?_ ?_
      · rintro i x H' hx' ⟨sm', hD'⟩
        obtain ⟨p, hpi, b, rfl, hb⟩ := paired_get hpp i x hx'
        refine ⟨b, _, rfl, SqT.of (sm' _ _ (s7 _ _ hb)), rfl, _, _, rfl, _, _, rfl, rfl, ?_⟩
        refine ⟨rfl, ?_⟩
        refine ⟨_, rfl, _, rfl, u, _, rfl, .inl (SqL.of (sm' _ _ hu)), rfl, strs_flat _, _, rfl, ?_⟩
        show if (!inV (V.str p.1) (fs.map V.str)) = true then _ else _
        rw [inV_mem]
        have lf : (((ps.take i).map (·.1)).filter (fun x => decide (x ∉ fs))).length ≤ 63 := by
          refine Nat.le_trans (List.length_filter_le _ _) ?_
          rw [List.length_map, List.length_take]
          omega
        by_cases e : p.1 ∈ fs
        · rw [if_neg (by simp [e])]
          refine ⟨sm', ?_⟩
          rw [hD', List.take_add_one, hpi]
          simp [e]
        · rw [if_pos (by simp [e])]
          refine ⟨_, rfl, _, hD', ?_, sm'.put nD2, ?_⟩
          · rw [List.length_map]
            exact small1000 (by omega)
          · rw [upd_same, List.take_add_one, hpi]
            simp [e]
      · rintro H' ⟨sm', hD'⟩
        rw [lv, List.take_length] at hD'
        have lf : ((ps.map (·.1)).filter (fun x => decide (x ∉ fs))).length ≤ 63 := by
          refine Nat.le_trans (List.length_filter_le _ _) ?_
          rw [List.length_map]
          omega
        refine ⟨u, D2, _, _, rfl, rfl, sm' _ _ hu, hD', ?_, fun u2 nu2 => ?_⟩
        · rw [List.length_map, List.length_map]
          exact Nat.le_of_lt (small1000 (by omega))
        have s2' := same_upd (o := .lst (fs.map V.str ++ ((ps.map (·.1)).filter (fun x => decide (x ∉ fs))).map V.str)) nu2
        refine ⟨_, u2, fs ++ (ps.map (·.1)).filter (fun x => decide (x ∉ fs)), rfl, (s7.trans sm').trans s2', ?_, ?_, fun x => ?_⟩
        · rw [upd_same, List.map_append]
        · refine List.nodup_append.mpr ⟨nm.1, prn.filter _, fun a ha b hb e => ?_⟩
          have h1 := of_decide_eq_true (List.mem_filter.mp hb).2
          exact h1 (e ▸ ha)
        · rw [List.mem_append, nm.2 x, List.mem_filter, List.take_add_one, hr']
          constructor
          · rintro (⟨r', h1, h2⟩ | ⟨h1, _⟩)
            · exact ⟨r', List.mem_append_left _ h1, h2⟩
            · exact ⟨r, List.mem_append_right _ List.mem_cons_self, eps ▸ h1⟩
          · rintro ⟨r', h1, h2⟩
            rcases List.mem_append.mp h1 with h1 | h1
            · exact .inl ⟨r', h1, h2⟩
            · have : r' = r := by simpa using h1
              subst this
              by_cases e : x ∈ fs
              · exact .inl ((nm.2 x).mp e)
              · exact .inr ⟨eps ▸ h2, decide_eq_true e⟩
    rintro σ' H7 ⟨v4, u, fs, rfl, s7, hu, nm⟩
    refine ⟨_, rfl, u, _, rfl, .inl (SqL.of hu), _, _, rfl, rfl, _, rfl, ?_⟩
    by_cases c : 3 < fs.length
    · refine iT (decide_eq_true (by rw [List.length_map]; omega)) ?_
      refine ⟨by decide, fun t nt => ?_⟩
      refine q _ _ (s3.trans ((s36.trans s7).trans (same_upd nt))) ⟨t, rfl, ?_⟩
      rw [hL, eR]
      refine .inl ⟨?_, upd_same⟩
      rcases hpl with ⟨_, rfl⟩ | ⟨_, rfl⟩
      · exact .inl ⟨fs, nm, c⟩
      · exact .inr ⟨fs, nm, c⟩
    · refine iF (decide_eq_false (by rw [List.length_map]; omega)) ?_
      have nb : ¬ BigP rs pl := fun ⟨gs, n2, l2⟩ => c (by rw [nm.len n2]; exact l2)
      refine ⟨v4, _, _, rfl, (s5.trans s6).trans s7, fun _ => ?_, fun h => ?_⟩
      · rcases hpl with ⟨_, rfl⟩ | ⟨rfl, rfl⟩
        · exact nb
        · exact n3 (by decide)
      · rcases hpl with ⟨rfl, rfl⟩ | ⟨rfl, rfl⟩
        · omega
        · exact nb
end
end Hl

set_option Elab.async false
set_option linter.all false
set_option maxRecDepth 100000
set_option maxHeartbeats 4000000
/-! letters_of, outlets_of: rules with any number of pairs -/
namespace Hl
open PySem PySem.Spec PyProof.Rows L2
section
variable {P : Program} {w : World} {K : PySem.W.Frag} {mg : Str → Option Value} {base : Heap}
/-- the names at a place of the rules -/
def spNsG (K : PySem.W.Frag) (pl : Int) : Sp := fun vs H Q _ => ∃ (a : Addr) (vr : List V) (rs : List Rl), vs = [.ref a] ∧ SqL K H a vr ∧ Paired (RuleAt H) vr rs ∧ rs.length ≤ 12 ∧ NmOk rs ∧ ∀ (H' : Hp) (q : Addr) (ys : List Str), Same H H' → H q = none → H' q = some (.lst (ys.map V.str)) → NmsOf rs pl ys → Q (.ref q) H'
theorem ok_loG {f : Addr} {fd : FuncData} {k : Nat} (F : Fun K "letters_of" "letters_of" sLo f fd) (J : Bj mg) : FnOk P w K mg base CX0 (k + 1) f fd ["rules"] (spNsG K 3) := by
  refine F.ok scLo (fun vs H Q E h => ?_) (fun cdv A outer s H vs Q E hr h => ?_)
  · obtain ⟨a, vr, rs, rfl, _⟩ := h
    rfl
  · obtain ⟨a, vr, rs, rfl, ha, hR, n12, ⟨S, lS, hS⟩, q⟩ := h
    refine ⟨_, (pss_one (ps_ret (pe_callB (r := Stx.rSortedTx P w) (Stx.cr_sortedTx rfl) (by rfl) J.sorted (by decide +kernel) (pa_cons (Stx.pe_scT2 (own := [("word", 1), ("every", 2), ("after", 3), ("weights", 4), ("gives", 5), ("most", 6), ("name", 7), ("weight", 8)]) (vs1 := [7, 8]) (g := gTup K 6 (gCons (gName 1) (gCons (gName 2) (gCons (gName 3) (gCons (gName 4) (gCons (gName 5) (gCons (gName 6) gNil))))))) (g1 := gTup K 2 (gCons (gName 7) (gCons (gName 8) gNil))) (tt := tYes) (tt1 := tYes) (wi1 := (iTup K (tVar 4))) (te := tVar 7) rfl scLo.nd (pi_list (pv 0)) (blkOk_by (own := [("word", 1), ("every", 2), ("after", 3), ("weights", 4), ("gives", 5), ("most", 6), ("name", 7), ("weight", 8)]) (N := nmLo) (sc := defScope sLo) (by decide +kernel)) (by decide) (fun _ _ _ _ _ => (pg_tup rfl (pgs_cons (pg_name (i := 1) scLo.nd rfl (Or.inl rfl)) (pgs_cons (pg_name (i := 2) scLo.nd rfl (Or.inl rfl)) (pgs_cons (pg_name (i := 3) scLo.nd rfl (Or.inl rfl)) (pgs_cons (pg_name (i := 4) scLo.nd rfl (Or.inl rfl)) (pgs_cons (pg_name (i := 5) scLo.nd rfl (Or.inl rfl)) (pgs_cons (pg_name (i := 6) scLo.nd rfl (Or.inl rfl)) pgs_nil)))))))) (fun _ _ _ _ _ => pts_nil) (fun _ _ _ _ _ => (pi_tup (pv 4))) (fun _ _ _ _ _ => (pg_tup rfl (pgs_cons (pg_name (i := 7) scLo.nd rfl (Or.inl rfl)) (pgs_cons (pg_name (i := 8) scLo.nd rfl (Or.inl rfl)) pgs_nil)))) (fun _ _ _ _ _ => pts_nil) (fun _ _ _ _ _ => (pv 7))) pa_nil)))), ?_⟩
    have lr := hR.length
    have lenS : ∀ (l : List Str), l.Nodup → (∀ x ∈ l, x ∈ S) → l.length ≤ 63 := fun l n h => Nat.le_trans (nodup_subL n h) lS
    refine ⟨_, rfl, a, rfl, ⟨_, ha⟩, fun D nD => ?_⟩
    have sD := same_upd (o := Stx.SetSO P w D []) nD
    refine Stx.trn_list (K := K) (a := a) (xs := vr) (fun j H' => ∃ fs : List Str, Same H H' ∧ H' D = some (Stx.SetSO P w D fs) ∧ fs.Nodup ∧ (∀ x, x ∈ fs ↔ ∃ r ∈ rs.take j, x ∈ (prF r 3).map (·.1)))
      ⟨[], sD, upd_same, List.nodup_nil, (fun x => ⟨fun h => absurd h List.not_mem_nil, fun ⟨r, hr, _⟩ => by rw [List.take_zero] at hr; exact absurd hr List.not_mem_nil⟩)⟩ (fun j H' _ ⟨_, sm, _⟩ => sm.seq ha) ?_ ?_
    · rintro j x H1 hx ⟨fs, sm, hD, fnd, fme⟩
      obtain ⟨r, hr', ra⟩ := paired_get hR j x hx
      have hjl := (List.getElem?_eq_some_iff.mp hr').1
      have hrm : r ∈ rs := List.mem_of_getElem? hr'
      have prS : ∀ x ∈ (prF r 3).map (·.1), x ∈ S := (hS r hrm 3).2
      have fsS : ∀ {x}, x ∈ fs → x ∈ S := fun {x} hx => by
        obtain ⟨r', h1, h2⟩ := (fme x).mp hx
        exact (hS r' (List.mem_of_mem_take h1) 3).2 x h2
      obtain ⟨t, wt', gt, rfl, ht, hw, hg⟩ := ra
      obtain ⟨vs, hps, hpp⟩ : ∃ vs : List V, TupN H wt' vs ∧ Paired (PairAt H) vs (prF r 3) := hw
      have lv := hpp.length
      refine ⟨t, _, rfl, SqT.of (sm _ _ ht), rfl, _, _, rfl, _, _, rfl, _, _, rfl, _, _, rfl, _, _, rfl, _, _, rfl, rfl, ?_⟩
      refine ⟨by rw [wipe_set (by decide), wipe_set (by decide), wipe_set (by decide), wipe_set (by decide), wipe_set (by decide), wipe_set (by decide), wipe_wipe], ?_⟩
      refine ⟨.ref wt', (by rw [List.getElem?_set_ne (by decide), List.getElem?_set_ne (by decide), List.getElem?_set_self (by rw [List.length_set, List.length_set, List.length_set, wipe_length]; exact (by decide : 4 < 9))]), wt', rfl, ⟨_, .inl (hps.same sm).rd⟩, ?_⟩
      refine Stx.trn_tup (K := K) (a := wt') (xs := vs) (fun i H' => ∃ gs : List Str, Same H H' ∧ H' D = some (Stx.SetSO P w D gs) ∧ gs.Nodup ∧ (∀ x, x ∈ gs ↔ x ∈ fs ∨ x ∈ ((prF r 3).take i).map (·.1)))
        ⟨fs, sm, hD, fnd, (fun x => ⟨.inl, fun h => h.elim id fun h => by rw [List.take_zero] at h; exact absurd h List.not_mem_nil⟩)⟩ (fun i H' _ ⟨_, sm', _⟩ => .inl (hps.same sm').rd) ?_ ?_
      · rintro i x H' hx' ⟨gs, sm', hD', gnd, gme⟩
        obtain ⟨p, hpi, b, rfl, hb⟩ := paired_get hpp i x hx'
        have hil := (List.getElem?_eq_some_iff.mp hpi).1
        refine ⟨b, _, rfl, SqT.of (sm' _ _ hb), rfl, _, _, rfl, _, _, rfl, rfl, ?_⟩
        refine ⟨by rw [wipe_set (by decide), wipe_set (by decide), wipe_wipe], ?_⟩
        refine ⟨.str p.1, (by rw [List.getElem?_set_ne (by decide), List.getElem?_set_self (by rw [wipe_length, List.length_set, List.length_set, List.length_set, List.length_set, List.length_set, List.length_set, wipe_length]; exact (by decide : 7 < 9))]), p.1, gs, rfl, hD', ?_, Stx.addS p.1 gs, sm'.put nD, upd_same, Stx.nodup_addS gnd, fun x => ?_⟩
        · show gs.length + 1 < scanBound
          have := lenS gs gnd (fun x hx => ((gme x).mp hx).elim fsS fun h => prS x (by obtain ⟨y, hy, e⟩ := List.mem_map.mp h; exact List.mem_map.mpr ⟨y, List.mem_of_mem_take hy, e⟩))
          unfold scanBound
          omega
        · rw [Stx.mem_addS, gme x, List.take_add_one, hpi]
          simp only [List.map_append, List.mem_append, Option.toList_some, List.map_cons, List.map_nil, List.mem_singleton]
          constructor
          · rintro (h | h | h)
            · exact .inr (.inr h)
            · exact .inl h
            · exact .inr (.inl h)
          · rintro (h | h | h)
            · exact .inr (.inl h)
            · exact .inr (.inr h)
            · exact .inl h
      · rintro H' ⟨gs, sm', hD', gnd, gme⟩
        rw [lv] at gme
        rw [List.take_length] at gme
        refine ⟨gs, sm', hD', gnd, fun x => ?_⟩
        rw [gme x, fme x, List.take_add_one, hr']
        constructor
        · rintro (⟨r', h1, h2⟩ | h)
          · exact ⟨r', List.mem_append_left _ h1, h2⟩
          · exact ⟨r, List.mem_append_right _ List.mem_cons_self, h⟩
        · rintro ⟨r', h1, h2⟩
          rcases List.mem_append.mp h1 with h1 | h1
          · exact .inl ⟨r', h1, h2⟩
          · have : r' = r := by simpa using h1
            subst this
            exact .inr h2
    · rintro H1 ⟨fs, sm, hD, fnd, fme⟩
      rw [lr, List.take_length] at fme
      have := lenS fs fnd (fun x hx => by
        obtain ⟨r', h1, h2⟩ := (fme x).mp hx
        exact (hS r' h1 3).2 x h2)
      refine ⟨D, fs, rfl, hD, by omega, fun ss p pm so np => ?_⟩
      exact q _ p ss (sm.trans (same_upd np)) (sm.free np) upd_same ⟨pm.nodup_iff.mpr fnd, fun x => pm.mem_iff.trans (fme x)⟩
theorem ok_ooG {f : Addr} {fd : FuncData} {k : Nat} (F : Fun K "outlets_of" "outlets_of" sOo f fd) (J : Bj mg) : FnOk P w K mg base CX0 (k + 1) f fd ["rules"] (spNsG K 4) := by
  refine F.ok scOo (fun vs H Q E h => ?_) (fun cdv A outer s H vs Q E hr h => ?_)
  · obtain ⟨a, vr, rs, rfl, _⟩ := h
    rfl
  · obtain ⟨a, vr, rs, rfl, ha, hR, n12, ⟨S, lS, hS⟩, q⟩ := h
    refine ⟨_, (pss_one (ps_ret (pe_callB (r := Stx.rSortedTx P w) (Stx.cr_sortedTx rfl) (by rfl) J.sorted (by decide +kernel) (pa_cons (Stx.pe_scT2 (own := [("word", 1), ("every", 2), ("after", 3), ("weights", 4), ("gives", 5), ("most", 6), ("name", 7), ("many", 8)]) (vs1 := [7, 8]) (g := gTup K 6 (gCons (gName 1) (gCons (gName 2) (gCons (gName 3) (gCons (gName 4) (gCons (gName 5) (gCons (gName 6) gNil))))))) (g1 := gTup K 2 (gCons (gName 7) (gCons (gName 8) gNil))) (tt := tYes) (tt1 := tYes) (wi1 := (iTup K (tVar 5))) (te := tVar 7) rfl scOo.nd (pi_list (pv 0)) (blkOk_by (own := [("word", 1), ("every", 2), ("after", 3), ("weights", 4), ("gives", 5), ("most", 6), ("name", 7), ("many", 8)]) (N := nmOo) (sc := defScope sOo) (by decide +kernel)) (by decide) (fun _ _ _ _ _ => (pg_tup rfl (pgs_cons (pg_name (i := 1) scOo.nd rfl (Or.inl rfl)) (pgs_cons (pg_name (i := 2) scOo.nd rfl (Or.inl rfl)) (pgs_cons (pg_name (i := 3) scOo.nd rfl (Or.inl rfl)) (pgs_cons (pg_name (i := 4) scOo.nd rfl (Or.inl rfl)) (pgs_cons (pg_name (i := 5) scOo.nd rfl (Or.inl rfl)) (pgs_cons (pg_name (i := 6) scOo.nd rfl (Or.inl rfl)) pgs_nil)))))))) (fun _ _ _ _ _ => pts_nil) (fun _ _ _ _ _ => (pi_tup (pv 5))) (fun _ _ _ _ _ => (pg_tup rfl (pgs_cons (pg_name (i := 7) scOo.nd rfl (Or.inl rfl)) (pgs_cons (pg_name (i := 8) scOo.nd rfl (Or.inl rfl)) pgs_nil)))) (fun _ _ _ _ _ => pts_nil) (fun _ _ _ _ _ => (pv 7))) pa_nil)))), ?_⟩
    have lr := hR.length
    have lenS : ∀ (l : List Str), l.Nodup → (∀ x ∈ l, x ∈ S) → l.length ≤ 63 := fun l n h => Nat.le_trans (nodup_subL n h) lS
    refine ⟨_, rfl, a, rfl, ⟨_, ha⟩, fun D nD => ?_⟩
    have sD := same_upd (o := Stx.SetSO P w D []) nD
    refine Stx.trn_list (K := K) (a := a) (xs := vr) (fun j H' => ∃ fs : List Str, Same H H' ∧ H' D = some (Stx.SetSO P w D fs) ∧ fs.Nodup ∧ (∀ x, x ∈ fs ↔ ∃ r ∈ rs.take j, x ∈ (prF r 4).map (·.1)))
      ⟨[], sD, upd_same, List.nodup_nil, (fun x => ⟨fun h => absurd h List.not_mem_nil, fun ⟨r, hr, _⟩ => by rw [List.take_zero] at hr; exact absurd hr List.not_mem_nil⟩)⟩ (fun j H' _ ⟨_, sm, _⟩ => sm.seq ha) ?_ ?_
    · rintro j x H1 hx ⟨fs, sm, hD, fnd, fme⟩
      obtain ⟨r, hr', ra⟩ := paired_get hR j x hx
      have hjl := (List.getElem?_eq_some_iff.mp hr').1
      have hrm : r ∈ rs := List.mem_of_getElem? hr'
      have prS : ∀ x ∈ (prF r 4).map (·.1), x ∈ S := (hS r hrm 4).2
      have fsS : ∀ {x}, x ∈ fs → x ∈ S := fun {x} hx => by
        obtain ⟨r', h1, h2⟩ := (fme x).mp hx
        exact (hS r' (List.mem_of_mem_take h1) 4).2 x h2
      obtain ⟨t, wt', gt, rfl, ht, hw, hg⟩ := ra
      obtain ⟨vs, hps, hpp⟩ : ∃ vs : List V, TupN H gt vs ∧ Paired (PairAt H) vs (prF r 4) := hg
      have lv := hpp.length
      refine ⟨t, _, rfl, SqT.of (sm _ _ ht), rfl, _, _, rfl, _, _, rfl, _, _, rfl, _, _, rfl, _, _, rfl, _, _, rfl, rfl, ?_⟩
      refine ⟨by rw [wipe_set (by decide), wipe_set (by decide), wipe_set (by decide), wipe_set (by decide), wipe_set (by decide), wipe_set (by decide), wipe_wipe], ?_⟩
      refine ⟨.ref gt, (by rw [List.getElem?_set_ne (by decide), List.getElem?_set_self (by rw [List.length_set, List.length_set, List.length_set, List.length_set, wipe_length]; exact (by decide : 5 < 9))]), gt, rfl, ⟨_, .inl (hps.same sm).rd⟩, ?_⟩
      refine Stx.trn_tup (K := K) (a := gt) (xs := vs) (fun i H' => ∃ gs : List Str, Same H H' ∧ H' D = some (Stx.SetSO P w D gs) ∧ gs.Nodup ∧ (∀ x, x ∈ gs ↔ x ∈ fs ∨ x ∈ ((prF r 4).take i).map (·.1)))
        ⟨fs, sm, hD, fnd, (fun x => ⟨.inl, fun h => h.elim id fun h => by rw [List.take_zero] at h; exact absurd h List.not_mem_nil⟩)⟩ (fun i H' _ ⟨_, sm', _⟩ => .inl (hps.same sm').rd) ?_ ?_
      · rintro i x H' hx' ⟨gs, sm', hD', gnd, gme⟩
        obtain ⟨p, hpi, b, rfl, hb⟩ := paired_get hpp i x hx'
        have hil := (List.getElem?_eq_some_iff.mp hpi).1
        refine ⟨b, _, rfl, SqT.of (sm' _ _ hb), rfl, _, _, rfl, _, _, rfl, rfl, ?_⟩
        refine ⟨by rw [wipe_set (by decide), wipe_set (by decide), wipe_wipe], ?_⟩
        refine ⟨.str p.1, (by rw [List.getElem?_set_ne (by decide), List.getElem?_set_self (by rw [wipe_length, List.length_set, List.length_set, List.length_set, List.length_set, List.length_set, List.length_set, wipe_length]; exact (by decide : 7 < 9))]), p.1, gs, rfl, hD', ?_, Stx.addS p.1 gs, sm'.put nD, upd_same, Stx.nodup_addS gnd, fun x => ?_⟩
        · show gs.length + 1 < scanBound
          have := lenS gs gnd (fun x hx => ((gme x).mp hx).elim fsS fun h => prS x (by obtain ⟨y, hy, e⟩ := List.mem_map.mp h; exact List.mem_map.mpr ⟨y, List.mem_of_mem_take hy, e⟩))
          unfold scanBound
          omega
        · rw [Stx.mem_addS, gme x, List.take_add_one, hpi]
          simp only [List.map_append, List.mem_append, Option.toList_some, List.map_cons, List.map_nil, List.mem_singleton]
          constructor
          · rintro (h | h | h)
            · exact .inr (.inr h)
            · exact .inl h
            · exact .inr (.inl h)
          · rintro (h | h | h)
            · exact .inr (.inl h)
            · exact .inr (.inr h)
            · exact .inl h
      · rintro H' ⟨gs, sm', hD', gnd, gme⟩
        rw [lv] at gme
        rw [List.take_length] at gme
        refine ⟨gs, sm', hD', gnd, fun x => ?_⟩
        rw [gme x, fme x, List.take_add_one, hr']
        constructor
        · rintro (⟨r', h1, h2⟩ | h)
          · exact ⟨r', List.mem_append_left _ h1, h2⟩
          · exact ⟨r, List.mem_append_right _ List.mem_cons_self, h⟩
        · rintro ⟨r', h1, h2⟩
          rcases List.mem_append.mp h1 with h1 | h1
          · exact .inl ⟨r', h1, h2⟩
          · have : r' = r := by simpa using h1
            subst this
            exact .inr h2
    · rintro H1 ⟨fs, sm, hD, fnd, fme⟩
      rw [lr, List.take_length] at fme
      have := lenS fs fnd (fun x hx => by
        obtain ⟨r', h1, h2⟩ := (fme x).mp hx
        exact (hS r' h1 4).2 x h2)
      refine ⟨D, fs, rfl, hD, by omega, fun ss p pm so np => ?_⟩
      exact q _ p ss (sm.trans (same_upd np)) (sm.free np) upd_same ⟨pm.nodup_iff.mpr fnd, fun x => pm.mem_iff.trans (fme x)⟩
end
end Hl

set_option Elab.async false
set_option linter.all false
set_option maxRecDepth 100000
set_option maxHeartbeats 4000000
namespace Hl
open PySem PySem.Spec PyProof.Rows L2 Tk
section
variable {P : Program} {w : World} {K : PySem.W.Frag} {mg : Str → Option Value} {base : Heap}
def spRrsG (BT BS : Addr) : Sp := fun vs H Q E => ∃ z : Str, vs = [.str z] ∧ z.length ≤ 1000000 ∧ (∀ rs, rdAll (toks z) = .ok rs → NmOk rs) ∧
  (∀ rs, rdAll (toks z) = .ok rs → ¬ Big rs → ∀ (H' : Hp) (q : Addr) (vr : List V), Ki H H' → H q = none → H' q = some (.lst vr) → Paired (RuleAt H') vr rs → Q (.ref q) H') ∧
  (∀ rs, rdAll (toks z) = .ok rs → Big rs → ∀ (H' : Hp) (d : Addr), Ki H H' → H' d = some (.xd (Hw.errF "BadSize" [] [])) → E (.ref BS) (some d) H') ∧
  (∀ e, rdAll (toks z) = .error e → ∀ (H' : Hp) (d : Addr), Ki H H' → H' d = some (.xd (Hw.errF "BadText" ["at"] [.int (e : Nat)])) → E (.ref BT) (some d) H')
theorem ok_rrsG {f fI fR fC fF fO fL fU fB C BT BS : Addr} {fd fdI fdR fdC fdF fdO fdL fdU fdB : FuncData} {k : Nat} (F : Fun K "read_rules" "read_rules" sRrs f fd) (M : Rc K C) (MK : Mk K C fI) (gR : mg "Reader" = some (.ref C)) (B : Bi mg) (Cn : Cn mg) (Ri : Mth P w K mg base CX0 C k "__init__" ["self", "text"] (spRi C) fI fdI)
    (Rr : HasX P w K mg base (L2.CX P w) k "read_rule" ["reader"] (spRr C BT) fR fdR) (Cm : Mth P w K mg base CX0 C k "coming" ["self"] (spCm C) fC fdC) (Rf : Mth P w K mg base (L2.CX P w) C k "refuse" ["self"] (spRf C BT) fF fdF)
    (Ro : Mth P w K mg base (L2.CX P w) C k "one_of" ["self", "allowed"] (spRo C BT) fO fdO) (Lo : Has P w K mg base k "letters_of" ["rules"] (spNsG K 3) fL fdL) (Oo : Has P w K mg base k "outlets_of" ["rules"] (spNsG K 4) fU fdU) (EB : Hw.Er P w K mg base k "ValueError.__new__" Hw.tlV "BadSize" [] BS fB fdB) :
    FnOk P w K mg base (L2.CX P w) (k + 2) f fd ["text"] (spRrsG BT BS) := by
  obtain ⟨tu, hU⟩ := Cn.ru
  obtain ⟨tl, hL⟩ := Cn.le
  refine F.okX scRrs (fun vs H Q E h => ?_) (fun cdv A outer s H vs Q E hr1 h => ?_)
  · obtain ⟨z, rfl, _⟩ := h
    rfl
  · obtain ⟨z, rfl, hz, hok, Qk, Bk, Ek⟩ := h
    have hr := hr1.mono (Nat.le_succ k)
    refine ⟨_, (pss_cons (ps_set (i := 1) scRrs.nd rfl (.inl rfl) (pe_make MK Ri.G hr1 (by rfl) gR Ri.b .nil pass0 (pa_cons (pv 0) pa_nil)))
        (pss_cons (ps_set (i := 2) scRrs.nd rfl (.inl rfl) (pe_lst (pa_cons (pe_call Rr.G hr (by rfl) Rr.g Rr.kp Rr.b .nil (passes_call (takes_of rfl rfl rfl rfl) (fun _ _ _ _ h => h)) (pa_cons (pv 1) pa_nil)) pa_nil)))
        (pss_cons (ps_while (passes_of rfl) (pt_cmpR op_ne (pe_meth0 (pv 1) M.cl Cm.m Cm.G hr Cm.b .nil pass0) pe_str (nomark _))
          (Evl.pss_cut (ps_if (pt_cmpR op_eq (pe_callB call_len_seq (by rfl) B.len PySem.boot_len (pa_cons (pv 2) pa_nil)) (pe_glob (v := .int 12) rfl hU ⟨_, rfl⟩) (nomark _)) (pss_one (ps_expr (pe_meth0 (pv 1) M.cl Rf.m Rf.G hr Rf.b .nil (passes_call (takes_of rfl rfl rfl rfl) (fun _ _ _ _ h => h))))) pss_nil)
        (pss_cons (ps_expr (pe_meth (pv 1) M.cl Ro.m Ro.G hr Ro.b .nil (passes_call (takes_of rfl rfl rfl rfl) (fun _ _ _ _ h => h)) (pa_cons (pe_lst (pa_cons pe_str pa_nil)) pa_nil)))
        (pss_one (ps_expr (pe_bm PySem.F.plainAttrs_list PySem.F.slot_list_append PySem.F.type_list_append mt_append (pv 2) (pa_cons (pe_call Rr.G hr (by rfl) Rr.g Rr.kp Rr.b .nil (passes_call (takes_of rfl rfl rfl rfl) (fun _ _ _ _ h => h)) (pa_cons (pv 1) pa_nil)) pa_nil)))))))
        (pss_cons (ps_if (PW.pt (pw_or (pt_cmpR op_gt (pe_callB call_len_seq (by rfl) B.len PySem.boot_len (pa_cons (pe_call Lo.G hr (by rfl) Lo.g Lo.kp Lo.b .nil pass0 (pa_cons (pv 2) pa_nil)) pa_nil)) (pe_glob (v := .int 3) rfl hL ⟨_, rfl⟩) (nomark _)) (pw_or1 (pt_cmpR op_gt (pe_callB call_len_seq (by rfl) B.len PySem.boot_len (pa_cons (pe_call Oo.G hr (by rfl) Oo.g Oo.kp Oo.b .nil pass0 (pa_cons (pv 2) pa_nil)) pa_nil)) (pe_glob (v := .int 3) rfl hL ⟨_, rfl⟩) (nomark _))))) (pss_one (ps_raise rfl (takes_of rfl rfl rfl rfl) (Hw.pmk_er0 Hw.bseV EB hr1 (by rfl)))) pss_nil)
        (pss_one (ps_ret (pv 2))))))), ?_⟩
    refine ⟨_, rfl, fun p dx np nd ndp => ?_⟩
    have s0 : Same H (upd H dx (.own p)) := same_upd nd
    refine ⟨H, p, dx, z, rfl, s0.put np, np, upd_same, hz, fun H1 s1 rd1 => ⟨rfl, ?_⟩⟩
    refine ⟨_, rfl, p, toks z, rfl, rd1, fun r0 ts1 e1 H2 v0 k2 rd2 ra0 => ?_, fun e1 h1 H' d ki => Ek e1 (by unfold rdAll; rw [h1]) H' d ((Ki.of s1).trans ki)⟩
    have q1 : rdAll (toks z) = rdMoreR 11 [r0] ts1 := by unfold rdAll; rw [e1]
    refine ⟨(by show 1 ≤ sizeLine; decide), fun D nD => ?_⟩
    have sD := same_upd (o := .lst [v0]) nD
    have k02 := (Ki.of s1).trans k2
    refine ⟨WRr C z p D H H2 (rdAll (toks z)), ⟨11, [v0], [r0], ts1, rfl, k02.trans (Ki.of sD), Ki.of sD, upd_same, .cons (ra0.ki (Ki.of sD)) .nil, rd2.same sD, q1, rfl, Nat.le_refl _⟩, ?_⟩
    rintro m σ' H3 ⟨vr, rs, ts, rfl, k03, k23, hD, pr, rd3, eR, hm, l1⟩
    obtain ⟨dx3, qa, j3, hp3⟩ := rd3.ins
    have lv := pr.length
    refine ⟨_, rfl, p, dx3, _, rfl, hp3, rf_no _ _ (by decide +kernel) (by decide +kernel), p, ts, rfl, rd3, rfl, _, rfl, ite2 (fun e => ?_) (fun e => ?_)⟩
    rotate_left
    · -- the end
      have hd0 : hdW ts = "" := by simpa using e
      have eR' : rdAll (toks z) = .ok rs := by
        rw [eR]
        cases m with
        | zero => exact if_pos hd0
        | succ m => exact if_pos hd0
      have ok := hok rs eR'
      have lr12 : rs.length ≤ 12 := by omega
      have big : ∀ (H' : Hp), Ki H H' → Big rs → ∀ d, H' d = none → E (.ref BS) (some d) (upd H' d (.xd (Hw.errF "BadSize" [] []))) := fun H' ki b d nd => Bk rs eR' b _ d (ki.trans (Ki.of (same_upd nd))) upd_same
      refine ⟨_, rfl, D, vr, rs, rfl, SqL.of hD, pr, lr12, ok, fun H4 qs ys s4 nq hq nm => ?_⟩
      refine ⟨qs, _, rfl, .inl (SqL.of hq), _, _, rfl, rfl, _, rfl, ?_⟩
      by_cases c3 : 3 < ys.length
      · refine iT (decide_eq_true (by rw [List.length_map]; omega)) ?_
        exact EB.fin rfl (by decide) (fun v hv => nomatch hv) fun d nd => big H4 (k03.trans (Ki.of s4)) (.inl ⟨ys, nm, c3⟩) d nd
      refine iF (decide_eq_false (by rw [List.length_map]; omega)) ?_
      refine ⟨_, rfl, D, vr, rs, rfl, SqL.of (s4 _ _ hD), paired_mono (fun _ _ => RuleAt.ki (Ki.of s4)) pr, lr12, ok, fun H5 qs2 ys2 s5 nq2 hq2 nm2 => ?_⟩
      refine ⟨qs2, _, rfl, .inl (SqL.of hq2), _, _, rfl, rfl, _, rfl, ?_⟩
      have s45 := s4.trans s5
      by_cases c4 : 3 < ys2.length
      · refine iT (decide_eq_true (by rw [List.length_map]; omega)) ?_
        exact EB.fin rfl (by decide) (fun v hv => nomatch hv) fun d nd => big H5 (k03.trans (Ki.of s45)) (.inr ⟨ys2, nm2, c4⟩) d nd
      refine iF (decide_eq_false (by rw [List.length_map]; omega)) ?_
      have nb : ¬ Big rs := fun h => h.elim (fun ⟨gs, n2, l2⟩ => c3 (by rw [nm.len n2]; exact l2)) (fun ⟨gs, n2, l2⟩ => c4 (by rw [nm2.len n2]; exact l2))
      exact ⟨_, rfl, Qk rs eR' nb _ _ _ (k03.trans (Ki.of s45)) (k02.free _ nD) (s45 _ _ hD) (paired_mono (fun _ _ => RuleAt.ki (Ki.of s45)) pr)⟩
    -- one more
    have hd0 : hdW ts ≠ "" := fun h => by
      rw [h] at e
      simp at e
    refine ⟨fun σ' H' => ∃ m', m' < m ∧ WRr C z p D H H2 (rdAll (toks z)) m' σ' H', fun _ _ h => h, ?_⟩
    refine ⟨fun σ' H' => σ' = [some (.str z), some (.ref p), some (.ref D)] ∧ H3 = H' ∧ 1 ≤ m, ?_, ?_⟩
    · refine ⟨_, rfl, D, _, rfl, .inl (SqL.of hD), rfl, _, rfl, ite2 (fun e2 => ?_) (fun e2 => ?_)⟩
      · have m0 : m = 0 := by
          have : ((vr.length : Nat) : Int) = 12 := V.int.inj (of_decide_eq_true e2)
          omega
        subst m0
        have eR' : rdAll (toks z) = .error (hdA ts) := by
          rw [eR]
          exact if_neg hd0
        exact ⟨_, rfl, p, dx3, _, rfl, hp3, rf_no _ _ (by decide +kernel) (by decide +kernel), p, ts, rfl, rd3, fun H' d sm hd => Ek _ eR' H' d (k03.trans (Ki.of sm)) hd⟩
      · refine ⟨rfl, rfl, ?_⟩
        cases m with
        | zero =>
          refine absurd (decide_eq_true ?_) e2
          show V.int ((vr.length : Nat) : Int) = V.int 12
          rw [show vr.length = 12 by omega]
          rfl
        | succ m => exact Nat.succ_le_succ (Nat.zero_le _)
    rintro σ' H' ⟨rfl, rfl, m1⟩
    cases m with
    | zero => cases m1
    | succ m =>
    have eR2 : rdAll (toks z) = (match rdOne ";" ts with | .error e => .error e | .ok (_, t1) => match rdRule t1 with | .error e => .error e | .ok (r, t2) => rdMoreR m (rs ++ [r]) t2) := by
      rw [eR]
      exact if_neg hd0
    refine one_read rd3 rfl (by decide +kernel) (fun t4 e4 H4 _ k4 rd4 => ?_) (fun e4 h4 H' d ki => Ek e4 (by rw [eR2, h4]) H' d (k03.trans ki))
    rw [e4] at eR2
    have hD4 := k4.keep _ _ ni_lst hD
    refine ⟨_, rfl, .inl ⟨rfl, _, Or.inl (Or.inl hD4)⟩, _, rfl, p, t4, rfl, rd4, fun r t5 e5 H5 v5 k5 rd5 ra => ?_, fun e5 h5 H' d ki => Ek e5 (by rw [eR2]; dsimp only; rw [h5]) H' d ((k03.trans k4).trans ki)⟩
    have eR3 : rdAll (toks z) = rdMoreR m (rs ++ [r]) t5 := by
      rw [eR2]
      dsimp only
      rw [e5]
    have hD5 := k5.keep _ _ ni_lst hD4
    have k35 := k4.trans k5
    refine ⟨D, vr, v5, rfl, rfl, hD5, small1000 (by omega), m, Nat.lt_succ_self m, vr ++ [v5], rs ++ [r], t5, rfl, (k03.trans k35).put (k02.free _ nD), (k23.trans k35).put nD, upd_same, ?_, rd5.put hD5 (rd2.qne (k23.trans k35) nD), eR3, ?_, ?_⟩
    · exact paired_snoc (paired_mono (fun _ _ h => (RuleAt.ki k35 h).put hD5) pr) (ra.put hD5)
    · rw [List.length_append, List.length_singleton]
      omega
    · rw [List.length_append, List.length_singleton]
      omega
end
end Hl

set_option Elab.async false
set_option linter.all false
set_option maxRecDepth 100000
set_option maxHeartbeats 4000000
/-! the words of a text -/
namespace Hl
open PySem PySem.Spec PyProof.Rows L2 Tk
/-- the words of a text, each as long as it goes on, lie in a row -/
def Rn (S : List Str) (s : List Nat) : Prop := ∀ a w b : List Nat, s = a ++ w ++ b → w ≠ [] → (∀ c ∈ w, grp c = 2) → (∀ x, a.getLast? = some x → grp x ≠ 2) → (∀ x, b.head? = some x → grp x ≠ 2) → mkS w ∈ S
def trW (u : List Nat) : List Nat := (u.reverse.takeWhile fun c => grp c == 2).reverse
def hrW (v : List Nat) : List Nat := v.takeWhile fun c => grp c == 2
theorem hrW_eq {w b : List Nat} (hw : ∀ c ∈ w, grp c = 2) (hb : ∀ x, b.head? = some x → grp x ≠ 2) : hrW (w ++ b) = w := by
  unfold hrW
  rw [List.takeWhile_append_of_pos (fun c hc => by simp [hw c hc])]
  cases b with
  | nil => simp
  | cons x r =>
    have := hb x rfl
    rw [List.takeWhile_cons, if_neg (by simpa using this), List.append_nil]
theorem trW_eq {w a : List Nat} (hw : ∀ c ∈ w, grp c = 2) (ha : ∀ x, a.getLast? = some x → grp x ≠ 2) : trW (a ++ w) = w := by
  have := hrW_eq (w := w.reverse) (b := a.reverse) (fun c hc => hw c (List.mem_reverse.mp hc)) (fun x hx => ha x (by rw [List.head?_reverse] at hx; exact hx))
  unfold trW
  rw [List.reverse_append]
  unfold hrW at this
  rw [this, List.reverse_reverse]
theorem Rn.mono {S T : List Str} {s : List Nat} (h : Rn S s) (m : ∀ x ∈ S, x ∈ T) : Rn T s := fun a w b e n l al bh => m _ (h a w b e n l al bh)
theorem Rn.cutL {S : List Str} {u v : List Nat} (h : Rn S (u ++ v)) : Rn (mkS (trW u) :: S) u := fun a w b e n l al bh => by
  cases b with
  | nil =>
    rw [List.append_nil] at e
    rw [e, trW_eq l al]
    exact List.mem_cons_self
  | cons x r => exact List.mem_cons_of_mem _ (h a w (x :: r ++ v) (by rw [e, List.append_assoc]) n l al bh)
theorem Rn.cutR {S : List Str} {u v : List Nat} (h : Rn S (u ++ v)) : Rn (mkS (hrW v) :: S) v := fun a w b e n l al bh => by
  cases a with
  | nil =>
    rw [List.nil_append] at e
    rw [e, hrW_eq l bh]
    exact List.mem_cons_self
  | cons x r => exact List.mem_cons_of_mem _ (h (u ++ x :: r) w b (by rw [e]; simp) n l (fun y hy => al y (by rw [List.getLast?_append] at hy; cases hz : (x :: r).getLast? with | none => simp at hz | some z => rw [hz] at hy; exact hy)) bh)
theorem Rn.join {S : List Str} {u v : List Nat} (hu : Rn S u) (hv : Rn S v) : Rn (mkS (trW u ++ hrW v) :: S) (u ++ v) := fun a w b e n l al bh => by
  have new : ∀ d c : List Nat, u = a ++ d → w = d ++ c → v = c ++ b → mkS w ∈ mkS (trW u ++ hrW v) :: S := fun d c e1 e2 e3 => by
    rw [e1, e3, trW_eq (fun x hx => l x (by rw [e2]; exact List.mem_append_left _ hx)) al, hrW_eq (fun x hx => l x (by rw [e2]; exact List.mem_append_right _ hx)) bh, ← e2]
    exact List.mem_cons_self
  rcases List.append_eq_append_iff.mp e with ⟨c, h1, h2⟩ | ⟨c, h1, h2⟩
  · rcases List.append_eq_append_iff.mp h1 with ⟨d, k1, k2⟩ | ⟨d, k1, k2⟩
    · exact new d c k1 k2 h2
    · cases d with
      | nil => exact new [] w (by rw [k1, List.append_nil, List.append_nil]) rfl (by rw [h2, k2]; rfl)
      | cons x r =>
        refine List.mem_cons_of_mem _ (hv (x :: r) w b (by rw [h2, k2]) n l (fun y hy => al y ?_) bh)
        rw [k1, List.getLast?_append, hy]
        rfl
  · cases c with
    | nil => exact new w [] (by rw [h1, List.append_nil]) (by simp) (by rw [h2]; rfl)
    | cons x r => exact List.mem_cons_of_mem _ (hu a w (x :: r) h1 n l al (fun y hy => bh y (by rw [h2]; exact hy)))
theorem Rn.nil {S : List Str} : Rn S [] := fun a w b e n _ _ _ => by
  have := congrArg List.length e
  simp at this
  exact absurd (List.length_eq_zero_iff.mp (show w.length = 0 by omega)) n
theorem Rn.one (c : Nat) : Rn [mkS [c]] [c] := fun a w b e n _ _ _ => by
  have := congrArg List.length e
  simp at this
  have wl := List.length_pos_iff.mpr n
  obtain rfl : a = [] := List.length_eq_zero_iff.mp (by omega)
  obtain rfl : b = [] := List.length_eq_zero_iff.mp (by omega)
  rw [List.nil_append, List.append_nil] at e
  rw [e]
  exact List.mem_cons_self
/-- a blank parts words -/
theorem Rn.sepL {S : List Str} {u v : List Nat} (h : Rn S (u ++ 32 :: v)) : Rn S u := fun a w b e n l al bh => by
  refine h a w (b ++ 32 :: v) (by rw [e, List.append_assoc]) n l al (fun x hx => ?_)
  cases b with
  | nil => cases hx; decide
  | cons y r => exact bh x hx
theorem Rn.sepR {S : List Str} {u v : List Nat} (h : Rn S (u ++ 32 :: v)) : Rn S v := fun a w b e n l al bh => by
  refine h (u ++ 32 :: a) w b (by rw [e]; simp) n l (fun x hx => ?_) bh
  cases a with
  | nil =>
    have : x = 32 := by simpa using hx.symm
    rw [this]
    decide
  | cons y r => exact al x (by rw [List.getLast?_append] at hx; simpa [List.getLast?_cons_cons] using hx)
theorem Rn.sep {S : List Str} {u v : List Nat} (hu : Rn S u) (hv : Rn S v) : Rn S (u ++ 32 :: v) := fun a w b e n l al bh => by
  have no : ∀ c, c ∈ w → c ≠ 32 := fun c hc z => by
    have := l c hc
    rw [z] at this
    exact absurd this (by decide)
  rw [List.append_assoc] at e
  rcases List.append_eq_append_iff.mp e with ⟨c, h1, h2⟩ | ⟨c, h1, h2⟩
  · cases c with
    | nil =>
      -- w begins at the blank
      cases w with
      | nil => exact absurd rfl n
      | cons x r =>
        rw [List.nil_append] at h2
        cases h2
        exact absurd rfl (no 32 List.mem_cons_self)
    | cons x r =>
      rw [List.cons_append] at h2
      injection h2 with h3 h4
      refine hv r w b (by rw [h4, List.append_assoc]) n l (fun y hy => al y ?_) bh
      rw [h1, List.getLast?_append]
      cases r with
      | nil => cases hy
      | cons z r => rw [List.getLast?_cons_cons, hy]; rfl
  · rcases List.append_eq_append_iff.mp h2 with ⟨d, k1, k2⟩ | ⟨d, k1, k2⟩
    · exact hu a w d (by rw [h1, k1, List.append_assoc]) n l al (fun y hy => bh y (by rw [k2]; cases d with | nil => cases hy | cons z r => exact hy))
    · cases d with
      | nil => exact hu a w [] (by rw [h1, k1]; simp) n l al (fun y hy => nomatch hy)
      | cons x r =>
        rw [List.cons_append] at k2
        injection k2 with k3 k4
        exact absurd k3.symm (no x (by rw [k1]; exact List.mem_append_right _ List.mem_cons_self))
theorem Rn.joinL {S : List Str} : ∀ {ws : List (List Nat)}, Rn S (TL.joinL [32] ws) ↔ ∀ w ∈ ws, Rn S w
  | [] => ⟨fun _ w h => (nomatch h), fun _ => Rn.nil⟩
  | [x] => ⟨fun h w hw => by rw [List.mem_singleton.mp hw]; exact h, fun h => h x List.mem_cons_self⟩
  | x :: y :: r => by
    show Rn S (x ++ (32 :: TL.joinL [32] (y :: r))) ↔ _
    have ih := Rn.joinL (S := S) (ws := y :: r)
    constructor
    · intro h w hw
      rcases List.mem_cons.mp hw with rfl | hw
      · exact h.sepL
      · exact ih.mp h.sepR w hw
    · exact fun h => Rn.sep (h x List.mem_cons_self) (ih.mpr fun w hw => h w (List.mem_cons_of_mem _ hw))
theorem join_spl (s : List Nat) : ∀ acc : List Nat, TL.joinL [32] (TL.spl [32] 0 acc s) = acc ++ s := by
  induction s with
  | nil => exact fun acc => by rw [TL.spl_nil, List.append_nil]; rfl
  | cons c r ih =>
    intro acc
    have ne : ∀ (acc r : List Nat), ∃ y ys, TL.spl [32] 0 acc r = y :: ys := fun acc r => by
      induction r generalizing acc with
      | nil => exact ⟨acc, [], TL.spl_nil _ _ _⟩
      | cons d r ih =>
        cases hp : TL.pre [32] (d :: r) with
        | true => exact ⟨_, _, TL.spl_hit hp⟩
        | false => rw [TL.spl_miss hp]; exact ih _
    cases hp : TL.pre [32] (c :: r) with
    | true =>
      have c32 : c = 32 := by
        have h := hp
        unfold TL.pre at h
        simp at h
        omega
      obtain ⟨y, ys, ey⟩ := ne [] r
      have := ih []
      rw [TL.spl_hit hp, show [32].length - 1 = 0 from rfl, ey]
      show acc ++ (32 :: TL.joinL [32] (y :: ys)) = _
      rw [← ey, this, c32]
      rfl
    | false =>
      rw [TL.spl_miss hp, ih]
      simp
theorem tw_mem {α : Type} {p : α → Bool} : ∀ {l : List α} {x : α}, x ∈ l.takeWhile p → p x = true
  | y :: l, x, h => by
    rw [List.takeWhile_cons] at h
    split at h
    · rename_i hp
      rcases List.mem_cons.mp h with rfl | h
      · exact hp
      · exact tw_mem h
    · cases h
theorem run_same {g : Nat} (hg : g ≠ 0) (s : List Nat) (x : Nat) (h : x ∈ s.take (run g s)) : grp x = g := by
  unfold Tk.run at h
  rw [if_neg hg] at h
  have : s.take (s.takeWhile fun c => grp c == g).length = s.takeWhile fun c => grp c == g := List.prefix_iff_eq_take.mp (List.takeWhile_prefix _) ▸ rfl
  rw [this] at h
  simpa using tw_mem h
/-- words are tokens, tokens are words -/
theorem Rn.pcs {S : List Str} : ∀ (n at' : Nat) (s a0 : List Nat), s.length ≤ n → Rn S (a0 ++ s) → (∀ x y, a0.getLast? = some x → s.head? = some y → grp y = 2 → grp x ≠ 2) → ∀ p ∈ pcs n at' s, p.2 ≠ [] → (∀ c ∈ p.2, grp c = 2) → mkS p.2 ∈ S
  | 0, at', s, a0, hl, h, hb, p, hp, n, l => by
    rw [List.mem_singleton.mp hp] at n
    exact absurd rfl n
  | m + 1, at', [], a0, hl, h, hb, p, hp, n, l => by
    rw [List.mem_singleton.mp hp] at n
    exact absurd rfl n
  | m + 1, at', c :: s, a0, hl, h, hb, p, hp, n, l => by
    rw [pcs_cons] at hp
    rcases List.mem_append.mp hp with hp | hp
    · split at hp
      · cases hp
      · rw [List.mem_singleton.mp hp] at l ⊢
        have gc := l c List.mem_cons_self
        refine h a0 (c :: s.take (run (grp c) s)) (s.drop (run (grp c) s)) ?_ (by simp) l (fun x hx => hb x c hx rfl gc) (fun x hx => ?_)
        · rw [List.append_assoc, List.cons_append, List.take_append_drop]
        · cases hd : s.drop (run (grp c) s) with
          | nil => rw [hd] at hx; cases hx
          | cons y r =>
            rw [hd] at hx
            cases hx
            rw [gc] at hd
            exact run_stop (by decide) s _ r hd
    · have e : a0 ++ c :: s = (a0 ++ c :: s.take (run (grp c) s)) ++ s.drop (run (grp c) s) := by
        rw [List.append_assoc, List.cons_append, List.take_append_drop]
      rw [e] at h
      refine Rn.pcs m _ _ _ ?_ h (fun x y hx hy gy => ?_) p hp n l
      · rw [List.length_drop]
        rw [List.length_cons] at hl
        omega
      · have gx : grp x = grp c := by
          rw [List.getLast?_append] at hx
          have : (c :: s.take (run (grp c) s)).getLast? = some x := by
            cases hz : (c :: s.take (run (grp c) s)).getLast? with
            | none => simp at hz
            | some z => rw [hz] at hx; exact hx
          have hm := List.mem_of_getLast? this
          rcases List.mem_cons.mp hm with rfl | hm
          · rfl
          · by_cases g0 : grp c = 0
            · rw [g0] at hm
              have : run 0 s = 0 := rfl
              rw [this, List.take_zero] at hm
              cases hm
            · exact run_same g0 s x hm
        intro z
        rw [gx] at z
        cases hd : s.drop (run (grp c) s) with
        | nil => rw [hd] at hy; cases hy
        | cons y' r =>
          rw [hd] at hy
          cases hy
          rw [z] at hd
          exact run_stop (by decide) s _ r hd gy
theorem Rn.toks {S : List Str} {z : Str} (h : Rn S (cL z)) : ∀ t ∈ toks z, t.2 ≠ "" → (∀ c ∈ cL t.2, grp c = 2) → t.2 ∈ S := fun t ht n l => by
  obtain ⟨p, hp, rfl⟩ := List.mem_map.mp ht
  refine Rn.pcs _ _ _ [] (by rw [← cL_len]; exact Nat.le_refl _) h (fun x y hx => nomatch hx) p hp (fun z => n ?_) l
  show mkS p.2 = ""
  rw [z]
  decide +kernel
/-- the other way: a row that holds all words of the pieces -/
theorem Rn.of {S : List Str} : ∀ (n at' : Nat) (s : List Nat), s.length ≤ n → (∀ p ∈ Tk.pcs n at' s, p.2 ≠ [] → (∀ c ∈ p.2, grp c = 2) → mkS p.2 ∈ S) → Rn S s
  | 0, at', s, hl, h => by
    rw [List.length_eq_zero_iff.mp (Nat.le_zero.mp hl)]
    exact Rn.nil
  | m + 1, at', [], hl, h => Rn.nil
  | m + 1, at', c :: s, hl, h => fun a w b e n l al bh => by
    rw [pcs_cons] at h
    cases a with
    | nil =>
      cases w with
      | nil => exact absurd rfl n
      | cons d w =>
        rw [List.nil_append, List.cons_append] at e
        injection e with e1 e2
        subst e1
        have gc := l c List.mem_cons_self
        have rl : run (grp c) s = w.length := by
          have := hrW_eq (w := w) (b := b) (fun x hx => l x (List.mem_cons_of_mem _ hx)) bh
          unfold Tk.run
          rw [gc, if_neg (by decide), e2]
          exact congrArg List.length this
        have c32 : c ≠ 32 := fun z => by
          rw [z] at gc
          exact absurd gc (by decide)
        have := h (at', c :: s.take (run (grp c) s)) (List.mem_append_left _ (by rw [if_neg c32]; exact List.mem_cons_self))
        rw [rl, e2, List.take_left] at this
        exact this (by simp) l
    | cons d a =>
      rw [List.append_assoc, List.cons_append] at e
      injection e with e1 e2
      subst e1
      obtain ⟨x, w', rfl⟩ : ∃ x w', w = x :: w' := by
        cases w with
        | nil => exact absurd rfl n
        | cons x w' => exact ⟨x, w', rfl⟩
      have k : run (grp c) s ≤ a.length := by
        by_cases g0 : grp c = 0
        · rw [g0]
          exact Nat.zero_le _
        unfold Tk.run
        rw [if_neg g0, e2, List.takeWhile_append]
        split
        · rename_i hall
          have ga : ∀ y ∈ c :: a, grp y = grp c := fun y hy => by
            rcases List.mem_cons.mp hy with rfl | hy
            · rfl
            · have : a.takeWhile (fun z => grp z == grp c) = a := (List.takeWhile_sublist _).eq_of_length hall
              rw [← this] at hy
              simpa using tw_mem hy
          have g2 : grp c ≠ 2 := by
            cases hz : (c :: a).getLast? with
            | none => simp at hz
            | some z =>
              rw [← ga z (List.mem_of_getLast? hz)]
              exact al z hz
          have gx := l x List.mem_cons_self
          rw [List.cons_append, List.takeWhile_cons, if_neg (by rw [gx]; simpa using fun z => g2 z.symm), List.append_nil]
          exact Nat.le_refl _
        · exact (List.takeWhile_sublist _).length_le
      refine Rn.of m (at' + 1 + run (grp c) s) (s.drop (run (grp c) s)) (by rw [List.length_drop]; rw [List.length_cons] at hl; omega) (fun p hp => h p (List.mem_append_right _ hp)) (a.drop (run (grp c) s)) (x :: w') b ?_ n l (fun y hy => ?_) bh
      · generalize run (grp c) s = k' at *
        rw [e2, List.drop_append_of_le_length k, List.append_assoc]
      · refine al y ?_
        generalize run (grp c) s = k' at *
        have := List.take_append_drop k' a
        rw [← this, ← List.cons_append, List.getLast?_append, hy]
        rfl
end Hl

set_option Elab.async false
set_option linter.all false
set_option maxRecDepth 100000
set_option maxHeartbeats 4000000
/-! the names that are read -/
namespace Hl
open PySem PySem.Spec PyProof.Rows L2 Tk
/-- pieces that lie in a row, and whose names lie in one -/
structure Lie (S : List Str) (ts : List Tok) : Prop where
  me : ∀ t ∈ ts, nameB t.2 = true → t.2 ∈ S
theorem Lie.sub {S : List Str} {ts us : List Tok} (h : Lie S ts) (s : ∀ t ∈ us, t ∈ ts) : Lie S us := ⟨fun t ht => h.me t (s t ht)⟩
theorem Lie.tail {S : List Str} {ts : List Tok} (h : Lie S ts) : Lie S ts.tail := h.sub fun t ht => List.mem_of_mem_tail ht
theorem one_ok {w : Str} {ts t' : List Tok} {u : Unit} (h : rdOne w ts = .ok (u, t')) : t' = ts.tail := by
  cases ts with
  | nil => cases h
  | cons t r =>
    obtain ⟨a, b⟩ := t
    have h' : (if b = w then (.ok ((), r) : Rd Unit) else .error a) = .ok (u, t') := h
    split at h'
    · cases h'; rfl
    · cases h'
theorem rnum_ok {lo hi : Nat} {ts t' : List Tok} {k : Int} (h : rdNum lo hi ts = .ok (k, t')) : t' = ts.tail := by
  cases ts with
  | nil => cases h
  | cons t r =>
    obtain ⟨a, b⟩ := t
    have h' : (if b ∈ numL lo hi then (.ok ((PySem.intText? b).getD 0, r) : Rd Int) else .error a) = .ok (k, t') := h
    split at h'
    · cases h'; rfl
    · cases h'
theorem pair_ok {S : List Str} {last : Str} {ts t' : List Tok} {p : Str × Int} (l : Lie S ts) (h : rdPair last ts = .ok (p, t')) : last.cps.toList < p.1.cps.toList ∧ p.1 ∈ S ∧ Lie S t' := by
  cases ts with
  | nil => cases h
  | cons t r =>
    obtain ⟨a, b⟩ := t
    unfold rdPair rdName at h
    dsimp only at h
    by_cases e : nameOk last b = true
    · rw [if_pos e] at h
      dsimp only at h
      have e' := e
      unfold nameOk at e'
      simp only [Bool.and_eq_true, decide_eq_true_eq] at e'
      have hb := l.me (a, b) List.mem_cons_self e'.1
      split at h
      · cases hn : rdNum 2 4 r with
        | error x => rw [hn] at h; cases h
        | ok q =>
          rw [hn] at h
          cases h
          refine ⟨e'.2.2, hb, ?_⟩
          have := rnum_ok (k := q.1) (t' := q.2) hn
          rw [this]
          exact l.tail.tail
      · cases h
        exact ⟨e'.2.2, hb, l.tail⟩
    · rw [if_neg e] at h
      cases h
/-- names that rise and lie in a row -/
structure Up (S : List Str) (ps : List (Str × Int)) (last : Str) : Prop where
  pw : (ps.map (·.1)).Pairwise fun a b : Str => a.cps.toList < b.cps.toList
  le : ∀ x ∈ ps.map (·.1), x.cps.toList < last.cps.toList ∨ x = last
  me : ∀ x ∈ ps.map (·.1), x ∈ S
theorem Up.snoc {S : List Str} {ps : List (Str × Int)} {last : Str} {p : Str × Int} (h : Up S ps last) (l : last.cps.toList < p.1.cps.toList) (m : p.1 ∈ S) : Up S (ps ++ [p]) p.1 where
  pw := by
    rw [List.map_append]
    refine List.pairwise_append.mpr ⟨h.pw, List.pairwise_singleton _ _, fun a ha b hb => ?_⟩
    rw [List.mem_singleton.mp hb]
    rcases h.le a ha with h | rfl
    · exact List.lt_trans h l
    · exact l
  le := fun x hx => by
    rw [List.map_append] at hx
    rcases List.mem_append.mp hx with hx | hx
    · rcases h.le x hx with h | rfl
      · exact .inl (List.lt_trans h l)
      · exact .inl l
    · exact .inr (List.mem_singleton.mp hx)
  me := fun x hx => by
    rw [List.map_append] at hx
    rcases List.mem_append.mp hx with hx | hx
    · exact h.me x hx
    · rw [List.mem_singleton.mp hx]
      exact m
theorem Up.nd {S : List Str} {ps : List (Str × Int)} {last : Str} (h : Up S ps last) : (ps.map (·.1)).Nodup := h.pw.imp fun l e => by
  rw [e] at l
  exact List.lt_irrefl _ l
theorem moreP_ok {S : List Str} : ∀ {n : Nat} {ps ps' : List (Str × Int)} {ts t' : List Tok}, Lie S ts → Up S ps ((ps.getLast?.map (·.1)).getD "") → rdMoreP n ps ts = .ok (ps', t') → ∃ last, Up S ps' last ∧ Lie S t'
  | 0, ps, ps', ts, t', l, u, h => by cases h
  | n + 1, ps, ps', ts, t', l, u, h => by
    unfold rdMoreP at h
    split at h
    · cases hp : rdPair ((ps.getLast?.map (·.1)).getD "") ts.tail with
      | error x => rw [hp] at h; cases h
      | ok q =>
        obtain ⟨p, t2⟩ := q
        rw [hp] at h
        obtain ⟨h1, h2, h3⟩ := pair_ok l.tail hp
        refine moreP_ok (ps := ps ++ [p]) h3 ?_ h
        rw [List.getLast?_append, List.getLast?_singleton]
        exact u.snoc h1 h2
    · cases h
      exact ⟨_, u, l⟩
theorem prs_ok {S : List Str} {ps : List (Str × Int)} {ts t' : List Tok} (l : Lie S ts) (h : rdPairs ts = .ok (ps, t')) : ((ps.map (·.1)).Nodup ∧ ∀ x ∈ ps.map (·.1), x ∈ S) ∧ Lie S t' := by
  unfold rdPairs at h
  cases hp : rdPair "" ts with
  | error x => rw [hp] at h; cases h
  | ok q =>
    obtain ⟨p, t1⟩ := q
    rw [hp] at h
    obtain ⟨h1, h2, h3⟩ := pair_ok l hp
    obtain ⟨last, u, lt⟩ := moreP_ok (S := S) h3 ⟨List.pairwise_singleton _ _, fun x hx => .inr (by rw [List.mem_singleton.mp hx]; rfl), fun x hx => by rw [List.mem_singleton.mp hx]; exact h2⟩ h
    exact ⟨⟨u.nd, u.me⟩, lt⟩
/-- a rule whose names lie in a row -/
def RlIn (S : List Str) (r : Rl) : Prop := ((r.ws.map (·.1)).Nodup ∧ ∀ x ∈ r.ws.map (·.1), x ∈ S) ∧ ((r.gs.map (·.1)).Nodup ∧ ∀ x ∈ r.gs.map (·.1), x ∈ S)
theorem rule_ok {S : List Str} {r : Rl} {ts t' : List Tok} (l : Lie S ts) (h : rdRule ts = .ok (r, t')) : RlIn S r ∧ Lie S t' := by
  unfold rdRule at h
  cases h1 : rdOne "each" ts with
  | error x => rw [h1] at h; cases h
  | ok q1 =>
  obtain ⟨u1, t1⟩ := q1
  rw [h1] at h
  have l1 : Lie S t1 := one_ok h1 ▸ l.tail
  dsimp only at h
  unfold rdR1 at h
  cases h2 : rdNum 1 6 t1 with
  | error x => rw [h2] at h; cases h
  | ok q2 =>
  obtain ⟨e, t2⟩ := q2
  rw [h2] at h
  have l2 : Lie S t2 := rnum_ok h2 ▸ l1.tail
  dsimp only at h
  unfold rdR2 at h
  cases h3 : rdAfter t2 with
  | error x => rw [h3] at h; cases h
  | ok q3 =>
  obtain ⟨a, t3⟩ := q3
  rw [h3] at h
  have l3 : Lie S t3 := by
    unfold rdAfter at h3
    split at h3
    · exact rnum_ok h3 ▸ l2.tail.tail
    · cases h3
      exact l2
  dsimp only at h
  unfold rdR3 at h
  cases h4 : rdOne "with" t3 with
  | error x => rw [h4] at h; cases h
  | ok q4 =>
  obtain ⟨u4, t4⟩ := q4
  rw [h4] at h
  have l4 : Lie S t4 := one_ok h4 ▸ l3.tail
  dsimp only at h
  unfold rdR4 at h
  cases h5 : rdPairs t4 with
  | error x => rw [h5] at h; cases h
  | ok q5 =>
  obtain ⟨ws, t5⟩ := q5
  rw [h5] at h
  obtain ⟨w1, l5⟩ := prs_ok l4 h5
  dsimp only at h
  unfold rdR5 at h
  cases h6 : rdOne "gives" t5 with
  | error x => rw [h6] at h; cases h
  | ok q6 =>
  obtain ⟨u6, t6⟩ := q6
  rw [h6] at h
  have l6 : Lie S t6 := one_ok h6 ▸ l5.tail
  dsimp only at h
  unfold rdR6 at h
  cases h7 : rdPairs t6 with
  | error x => rw [h7] at h; cases h
  | ok q7 =>
  obtain ⟨gs, t7⟩ := q7
  rw [h7] at h
  obtain ⟨g1, l7⟩ := prs_ok l6 h7
  dsimp only at h
  unfold rdR7 at h
  cases h8 : rdMost t7 with
  | error x => rw [h8] at h; cases h
  | ok q8 =>
  obtain ⟨m, t8⟩ := q8
  rw [h8] at h
  cases h
  refine ⟨⟨w1, g1⟩, ?_⟩
  unfold rdMost at h8
  split at h8
  · cases h9 : rdOne "most" t7.tail with
    | error x => rw [h9] at h8; cases h8
    | ok q9 =>
    obtain ⟨u9, t9⟩ := q9
    rw [h9] at h8
    have l9 : Lie S t9 := one_ok h9 ▸ l7.tail.tail
    dsimp only at h8
    cases h10 : rdNum 1 6 t9 with
    | error x => rw [h10] at h8; cases h8
    | ok q10 =>
    obtain ⟨k, t10⟩ := q10
    rw [h10] at h8
    cases h8
    exact rnum_ok h10 ▸ l9.tail
  · cases h8
    exact l7
theorem moreR_ok {S : List Str} : ∀ {n : Nat} {rs rs' : List Rl} {ts : List Tok}, Lie S ts → (∀ r ∈ rs, RlIn S r) → rdMoreR n rs ts = .ok rs' → ∀ r ∈ rs', RlIn S r
  | 0, rs, rs', ts, l, u, h => by
    unfold rdMoreR at h
    split at h
    · cases h; exact u
    · cases h
  | n + 1, rs, rs', ts, l, u, h => by
    unfold rdMoreR at h
    split at h
    · cases h; exact u
    · cases h1 : rdOne ";" ts with
      | error x => rw [h1] at h; cases h
      | ok q1 =>
        obtain ⟨u1, t1⟩ := q1
        rw [h1] at h
        have l1 : Lie S t1 := one_ok h1 ▸ l.tail
        dsimp only at h
        cases h2 : rdRule t1 with
        | error x => rw [h2] at h; cases h
        | ok q2 =>
          obtain ⟨r, t2⟩ := q2
          rw [h2] at h
          obtain ⟨h3, h4⟩ := rule_ok l1 h2
          refine moreR_ok h4 (fun y hy => ?_) h
          rcases List.mem_append.mp hy with hy | hy
          · exact u y hy
          · rw [List.mem_singleton.mp hy]
            exact h3
theorem all_ok {S : List Str} {rs : List Rl} {ts : List Tok} (l : Lie S ts) (h : rdAll ts = .ok rs) : ∀ r ∈ rs, RlIn S r := by
  unfold rdAll at h
  cases h2 : rdRule ts with
  | error x => rw [h2] at h; cases h
  | ok q2 =>
    obtain ⟨r, t2⟩ := q2
    rw [h2] at h
    obtain ⟨h3, h4⟩ := rule_ok l h2
    exact moreR_ok h4 (fun y hy => by rw [List.mem_singleton.mp hy]; exact h3) h
/-- a text of few words: what is read has few names -/
theorem nmOk_of {S : List Str} {z : Str} (h : Rn S (cL z)) (ls : S.length ≤ 63) (rs : List Rl) (e : rdAll (toks z) = .ok rs) : NmOk rs := by
  refine ⟨S, ls, fun r hr pl => ?_⟩
  have l : Lie S (toks z) := ⟨fun t ht hn => by
    unfold nameB at hn
    simp only [Bool.and_eq_true, decide_eq_true_eq, List.all_eq_true] at hn
    refine Rn.toks h t ht (fun z => ?_) (fun c hc => ?_)
    · rw [z] at hn
      exact absurd hn.1 (by decide +kernel)
    · unfold grp
      rw [if_pos (hn.2.2 c hc)]⟩
  have := all_ok l e r hr
  unfold nmR
  split
  · exact this.1
  · exact this.2
end Hl

set_option Elab.async false
set_option linter.all false
set_option maxRecDepth 100000
set_option maxHeartbeats 4000000
/-! bent texts: few words more -/
namespace Hl
open PySem PySem.Spec PyProof.Rows L2 Tk
structure TxO (S : List Str) (n : Nat) (z : Str) : Prop where
  len : z.length ≤ n
  asc : ∀ c ∈ cL z, c < 128
  rn : Rn S (cL z)
/-- what a bend leaves -/
def Bent (S : List Str) (n : Nat) (z : Str) : Prop := ∃ S', S'.length ≤ S.length + 5 ∧ TxO S' (n + 9) z
theorem cL_cutL {z : Str} {k : Nat} : cL (cutS z none (some (k : Int))) = (cL z).take k := by
  show ((z.cps.toList.drop (HT.sIx z.length 0 none)).take (HT.sIx z.length z.length (some (k : Int)) - HT.sIx z.length 0 none)) = _
  rw [HT.sIx_none, HT.sIx_nat, List.drop_zero, Nat.sub_zero]
  have lz : (cL z).length = z.length := cL_len z
  show (cL z).take _ = _
  by_cases h : k ≤ z.length
  · rw [Nat.min_eq_left h]
  · rw [Nat.min_eq_right (by omega), List.take_of_length_le (by omega), List.take_of_length_le (by omega)]
theorem cL_cutR {z : Str} {k : Nat} : cL (cutS z (some (k : Int)) none) = (cL z).drop k := by
  show ((z.cps.toList.drop (HT.sIx z.length 0 (some (k : Int)))).take (HT.sIx z.length z.length none - HT.sIx z.length 0 (some (k : Int)))) = _
  rw [HT.sIx_none, HT.sIx_nat]
  have lz : (cL z).length = z.length := cL_len z
  show ((cL z).drop _).take _ = _
  by_cases h : k ≤ z.length
  · rw [Nat.min_eq_left h, List.take_of_length_le (by rw [List.length_drop]; omega)]
  · rw [Nat.min_eq_right (by omega), List.drop_eq_nil_of_le (by omega), List.drop_eq_nil_of_le (by omega), List.take_nil]
theorem cutV_L {xs : List V} {k : Nat} : cutV xs none (some (k : Int)) = xs.take k := by
  unfold cutV
  rw [HT.sIx_none, HT.sIx_nat, List.drop_zero, Nat.sub_zero]
  by_cases h : k ≤ xs.length
  · rw [Nat.min_eq_left h]
  · rw [Nat.min_eq_right (by omega), List.take_of_length_le (by omega), List.take_of_length_le (by omega)]
theorem cutV_R {xs : List V} {k : Nat} : cutV xs (some (k : Int)) none = xs.drop k := by
  unfold cutV
  rw [HT.sIx_none, HT.sIx_nat]
  by_cases h : k ≤ xs.length
  · rw [Nat.min_eq_left h, List.take_of_length_le (by rw [List.length_drop]; omega)]
  · rw [Nat.min_eq_right (by omega), List.drop_eq_nil_of_le (by omega), List.drop_eq_nil_of_le (by omega), List.take_nil]
theorem Rn.take {S : List Str} {s : List Nat} (h : Rn S s) (k : Nat) : ∃ x, Rn (x :: S) (s.take k) := ⟨_, Rn.cutL (v := s.drop k) (by rw [List.take_append_drop]; exact h)⟩
theorem Rn.drop {S : List Str} {s : List Nat} (h : Rn S s) (k : Nat) : ∃ x, Rn (x :: S) (s.drop k) := ⟨_, Rn.cutR (u := s.take k) (by rw [List.take_append_drop]; exact h)⟩
section
variable {S : List Str} {n : Nat} {z : Str}
theorem Rn.w {S T : List Str} {s : List Nat} {x : Str} (h : Rn (x :: S) s) (hx : x ∈ T) (m : ∀ y ∈ S, y ∈ T) : Rn T s := h.mono fun y hy => by
  rcases List.mem_cons.mp hy with rfl | hy
  · exact hx
  · exact m y hy
theorem len_put {a b k j : Nat} {s : List Nat} (l : s.length ≤ a) (h : k ≤ j) : (s.take k).length + (s.drop j).length ≤ a := by
  rw [List.length_take, List.length_drop]
  have := Nat.min_le_left k s.length
  have := Nat.min_le_right k s.length
  omega
theorem bent_put (t : TxO S n z) {k j c : Nat} (h : k ≤ j) (hc : c < 128) : Bent S n ((cutS z none (some (k : Int)) ++ mkS [c]) ++ cutS z (some (j : Int)) none) := by
  obtain ⟨x1, h1⟩ := t.rn.take k
  obtain ⟨x2, h2⟩ := t.rn.drop j
  have u1 : Rn (x1 :: mkS [c] :: x2 :: S) ((cL z).take k) := h1.w (by simp) (by simp +contextual)
  have u2 : Rn (x1 :: mkS [c] :: x2 :: S) [c] := (Rn.one c).w (S := []) (by simp) (by simp)
  have u12 := u1.join u2
  generalize mkS (trW ((cL z).take k) ++ hrW [c]) = x4 at *
  have u3 : Rn (x4 :: x1 :: mkS [c] :: x2 :: S) ((cL z).drop j) := h2.w (by simp) (by simp +contextual)
  have u := u12.join u3
  generalize mkS (trW ((cL z).take k ++ [c]) ++ hrW ((cL z).drop j)) = x5 at *
  have ez : cL ((cutS z none (some (k : Int)) ++ mkS [c]) ++ cutS z (some (j : Int)) none) = ((cL z).take k ++ [c]) ++ (cL z).drop j := by rw [cL_app, cL_app, cL_cutL, cL_cutR]; rfl
  refine ⟨x5 :: x4 :: x1 :: mkS [c] :: x2 :: S, by simp only [List.length_cons]; omega, ?_, ?_, by rw [ez]; exact u⟩
  · have l := t.len
    rw [← cL_len] at l
    rw [← cL_len, ez, List.length_append, List.length_append]
    have := len_put (b := 0) l h
    show _ + 1 + _ ≤ _
    omega
  · intro d hd
    rw [ez] at hd
    rcases List.mem_append.mp hd with hd | hd
    · rcases List.mem_append.mp hd with hd | hd
      · exact t.asc d (List.mem_of_mem_take hd)
      · rw [List.mem_singleton.mp hd]
        exact hc
    · exact t.asc d (List.mem_of_mem_drop hd)
theorem bent_out (t : TxO S n z) {k j : Nat} (h : k ≤ j) : Bent S n (cutS z none (some (k : Int)) ++ cutS z (some (j : Int)) none) := by
  obtain ⟨x1, h1⟩ := t.rn.take k
  obtain ⟨x2, h2⟩ := t.rn.drop j
  have u1 : Rn (x1 :: x2 :: S) ((cL z).take k) := h1.w (by simp) (by simp +contextual)
  have u2 : Rn (x1 :: x2 :: S) ((cL z).drop j) := h2.w (by simp) (by simp +contextual)
  have u := u1.join u2
  generalize mkS (trW ((cL z).take k) ++ hrW ((cL z).drop j)) = x5 at *
  have ez : cL (cutS z none (some (k : Int)) ++ cutS z (some (j : Int)) none) = (cL z).take k ++ (cL z).drop j := by rw [cL_app, cL_cutL, cL_cutR]
  refine ⟨x5 :: x1 :: x2 :: S, by simp only [List.length_cons]; omega, ?_, ?_, by rw [ez]; exact u⟩
  · have l := t.len
    rw [← cL_len] at l
    rw [← cL_len, ez, List.length_append]
    have := len_put (b := 0) l h
    omega
  · intro d hd
    rw [ez] at hd
    rcases List.mem_append.mp hd with hd | hd
    · exact t.asc d (List.mem_of_mem_take hd)
    · exact t.asc d (List.mem_of_mem_drop hd)
theorem bent_cut (t : TxO S n z) {k : Nat} : Bent S n (cutS z none (some (k : Int))) := by
  obtain ⟨x1, h1⟩ := t.rn.take k
  refine ⟨x1 :: S, by simp only [List.length_cons]; omega, ?_, ?_, by rw [cL_cutL]; exact h1⟩
  · have l := t.len
    have := cutS_len z none (some (k : Int))
    omega
  · intro d hd
    rw [cL_cutL] at hd
    exact t.asc d (List.mem_of_mem_take hd)
/-! words -/
theorem joinL_len : ∀ {ws : List (List Nat)}, ws ≠ [] → (TL.joinL [32] ws).length + 1 = (ws.map (·.length)).sum + ws.length
  | [], h => absurd rfl h
  | [x], _ => by simp [TL.joinL]
  | x :: y :: r, _ => by
    have ih := joinL_len (ws := y :: r) (by simp)
    show (x ++ ([32] ++ TL.joinL [32] (y :: r))).length + 1 = _
    rw [List.length_append, List.length_append, List.map_cons, List.sum_cons, List.length_cons (as := y :: r)]
    show x.length + (1 + _) + 1 = _
    omega
theorem joinL_leW : ∀ (ws : List (List Nat)), (TL.joinL [32] ws).length ≤ (ws.map (·.length)).sum + ws.length := fun ws => by
  cases ws with
  | nil => exact Nat.zero_le _
  | cons x r =>
    have := joinL_len (ws := x :: r) (by simp)
    omega
theorem joinL_mem : ∀ {ws : List (List Nat)} {c : Nat}, c ∈ TL.joinL [32] ws → c = 32 ∨ ∃ w ∈ ws, c ∈ w
  | [], c, h => nomatch h
  | [x], c, h => .inr ⟨x, List.mem_cons_self, h⟩
  | x :: y :: r, c, h => by
    have h' : c ∈ x ++ ([32] ++ TL.joinL [32] (y :: r)) := h
    rcases List.mem_append.mp h' with h | h
    · exact .inr ⟨x, List.mem_cons_self, h⟩
    · rcases List.mem_append.mp h with h | h
      · exact .inl (List.mem_singleton.mp h)
      · rcases joinL_mem h with h | ⟨w, hw, h⟩
        · exact .inl h
        · exact .inr ⟨w, List.mem_cons_of_mem _ hw, h⟩
theorem mem_joinL : ∀ {ws : List (List Nat)} {c : Nat} {w : List Nat}, w ∈ ws → c ∈ w → c ∈ TL.joinL [32] ws
  | [x], c, w, h, hc => by rw [List.mem_singleton.mp h] at hc; exact hc
  | x :: y :: r, c, w, h, hc => by
    show c ∈ x ++ ([32] ++ TL.joinL [32] (y :: r))
    rcases List.mem_cons.mp h with rfl | h
    · exact List.mem_append_left _ hc
    · exact List.mem_append_right _ (List.mem_append_right _ (mem_joinL h hc))
theorem spl_ne (s : List Nat) : ∀ acc : List Nat, TL.spl [32] 0 acc s ≠ [] := by
  induction s with
  | nil => exact fun acc => by rw [TL.spl_nil]; exact List.cons_ne_nil _ _
  | cons c r ih =>
    intro acc
    cases hp : TL.pre [32] (c :: r) with
    | true => rw [TL.spl_hit hp]; exact List.cons_ne_nil _ _
    | false => rw [TL.spl_miss hp]; exact ih _
theorem split_words (z : Str) : ∃ ys : List Str, Txt.split z " " = ys ∧ TL.joinL [32] (ys.map cL) = cL z ∧ ys ≠ [] := by
  have e32 : TL.tl (" " : Str) = [32] := by decide +kernel
  have e := TL.split_spl z " " (by rw [e32]; simp) (TL.kind_ok (by decide +kernel))
  refine ⟨_, rfl, ?_, fun h => ?_⟩
  · show TL.joinL [32] ((Txt.split z " ").map TL.tl) = _
    rw [e, e32]
    exact join_spl _ []
  · rw [h, e32] at e
    exact spl_ne _ _ e.symm
theorem sum_app {a b : List Str} : ((a ++ b).map (·.length)).sum = (a.map (·.length)).sum + (b.map (·.length)).sum := by
  rw [List.map_append, List.sum_append]
/-- the words of a text -/
structure WdO (S : List Str) (n : Nat) (ys : List Str) : Prop where
  asc : ∀ y ∈ ys, ∀ c ∈ cL y, c < 128
  rn : ∀ y ∈ ys, Rn S (cL y)
  len : (ys.map (·.length)).sum + ys.length ≤ n
theorem wdo_of (t : TxO S n z) {ys : List Str} (e : TL.joinL [32] (ys.map cL) = cL z) (ne : ys ≠ []) : WdO S (n + 1) ys where
  asc := fun y hy c hc => t.asc c (by rw [← e]; exact mem_joinL (List.mem_map_of_mem hy) hc)
  rn := fun y hy => by
    have := t.rn
    rw [← e] at this
    exact Rn.joinL.mp this _ (List.mem_map_of_mem hy)
  len := by
    have l := t.len
    have := joinL_len (ws := ys.map cL) (by simpa using ne)
    rw [e, cL_len, List.length_map, List.map_map, show ((fun x : List Nat => x.length) ∘ cL) = (fun y : Str => y.length) from funext cL_len] at this
    omega
theorem WdO.app {ys zs : List Str} {m : Nat} (a : WdO S n ys) (b : WdO S m zs) : WdO S (n + m) (ys ++ zs) where
  asc := fun y hy => (List.mem_append.mp hy).elim (a.asc y) (b.asc y)
  rn := fun y hy => (List.mem_append.mp hy).elim (a.rn y) (b.rn y)
  len := by
    have := a.len
    have := b.len
    rw [sum_app, List.length_append]
    omega
theorem WdO.out {ys : List Str} (a : WdO S n ys) {k j : Nat} (h : k ≤ j) : WdO S n (ys.take k ++ ys.drop j) where
  asc := fun y hy => (List.mem_append.mp hy).elim (fun h => a.asc y (List.mem_of_mem_take h)) (fun h => a.asc y (List.mem_of_mem_drop h))
  rn := fun y hy => (List.mem_append.mp hy).elim (fun h => a.rn y (List.mem_of_mem_take h)) (fun h => a.rn y (List.mem_of_mem_drop h))
  len := by
    have l := a.len
    have e1 := sum_app (a := ys.take k) (b := ys.drop k)
    rw [List.take_append_drop] at e1
    have e2 := sum_app (a := (ys.drop k).take (j - k)) (b := (ys.drop k).drop (j - k))
    rw [List.take_append_drop, List.drop_drop, show k + (j - k) = j by omega] at e2
    rw [sum_app, List.length_append]
    have l2 : (ys.take k).length + (ys.drop j).length ≤ ys.length := by
      rw [List.length_take, List.length_drop]
      have := Nat.min_le_left k ys.length
      have := Nat.min_le_right k ys.length
      omega
    omega
theorem WdO.mono {T : List Str} {ys : List Str} (a : WdO S n ys) (m : ∀ x ∈ S, x ∈ T) : WdO T n ys := ⟨a.asc, fun y hy => (a.rn y hy).mono m, a.len⟩
theorem WdO.ins {ys : List Str} {x : Str} {m : Nat} (a : WdO S n ys) {k j : Nat} (h : k ≤ j) (r : Rn [x] (cL x)) (asc : ∀ c ∈ cL x, c < 128) (lx : x.length ≤ m) : WdO (x :: S) (n + m + 1) ((ys.take k ++ [x]) ++ ys.drop j) where
  asc := fun y hy => by
    rcases List.mem_append.mp hy with hy | hy
    · rcases List.mem_append.mp hy with hy | hy
      · exact a.asc y (List.mem_of_mem_take hy)
      · rw [List.mem_singleton.mp hy]
        exact asc
    · exact a.asc y (List.mem_of_mem_drop hy)
  rn := fun y hy => by
    rcases List.mem_append.mp hy with hy | hy
    · rcases List.mem_append.mp hy with hy | hy
      · exact (a.rn y (List.mem_of_mem_take hy)).mono fun _ h => List.mem_cons_of_mem _ h
      · rw [List.mem_singleton.mp hy]
        exact r.mono fun y hy => by rw [List.mem_singleton.mp hy]; exact List.mem_cons_self
    · exact (a.rn y (List.mem_of_mem_drop hy)).mono fun _ h => List.mem_cons_of_mem _ h
  len := by
    have l := (a.out h).len
    rw [sum_app, List.length_append] at l
    rw [sum_app, sum_app, List.length_append, List.length_append]
    show _ + ([x].map (·.length)).sum + _ + (_ + 1 + _) ≤ _
    rw [show ([x].map (·.length)).sum = x.length by simp]
    omega
theorem bent_words {T : List Str} {m : Nat} {ys : List Str} (a : WdO T m ys) (l : T.length ≤ S.length + 5) (lm : m ≤ n + 9) : Bent S n (Txt.join " " ys) := by
  have e32 : cL (" " : Str) = [32] := by decide +kernel
  have e : cL (Txt.join " " ys) = TL.joinL [32] (ys.map cL) := by rw [cL_join, e32]
  refine ⟨T, l, ?_, fun c hc => ?_, ?_⟩
  · rw [← cL_len, e]
    have := joinL_leW (ys.map cL)
    rw [List.length_map, List.map_map, show ((fun x : List Nat => x.length) ∘ cL) = (fun y : Str => y.length) from funext cL_len] at this
    have := a.len
    omega
  · rw [e] at hc
    rcases joinL_mem hc with rfl | ⟨w, hw, h⟩
    · decide
    · obtain ⟨y, hy, rfl⟩ := List.mem_map.mp hw
      exact a.asc y hy c h
  · rw [e]
    refine Rn.joinL.mpr fun w hw => ?_
    obtain ⟨y, hy, rfl⟩ := List.mem_map.mp hw
    exact a.rn y hy
end
/-- words that may come in -/
def freshW : List Str := ["each", "after", "with", "gives", "at", "most", "a", "2", "13", "7", "01", "abcdefg"]
theorem fresh_all : (freshW.all fun f => decide (f.length ≤ 7) && ((cL f).all (fun c => decide (c < 128)) && (pcs (cL f).length 0 (cL f)).all fun p => p.2.isEmpty || (!(p.2.all fun c => grp c == 2) || mkS p.2 == f))) = true := by decide +kernel
theorem fresh_ok {f : Str} (h : f ∈ freshW) : f.length ≤ 7 ∧ (∀ c ∈ cL f, c < 128) ∧ Rn [f] (cL f) := by
  have := List.all_eq_true.mp fresh_all f h
  simp only [Bool.and_eq_true, decide_eq_true_eq, List.all_eq_true] at this
  refine ⟨this.1, this.2.1, Rn.of _ 0 _ (Nat.le_refl _) fun p hp n l => ?_⟩
  have := this.2.2 p hp
  simp only [Bool.or_eq_true, Bool.not_eq_true', beq_iff_eq] at this
  rcases this with h | h | h
  · exact absurd (List.isEmpty_iff.mp h) n
  · rw [List.all_eq_true.mpr (fun c hc => by simpa using l c hc)] at h
    cases h
  · rw [h]
    exact List.mem_cons_self
def signW : Str := " ,;0123456789abchstwxyz-A_."
theorem sign_ok : ((cL signW).all fun c => decide (c < 128)) = true := by decide +kernel
theorem sign_mem {v : V} (h : v ∈ Lx.sgns signW) : ∃ c : Nat, v = .str (mkS [c]) ∧ c < 128 := by
  obtain ⟨c, hc, rfl⟩ := List.mem_map.mp h
  exact ⟨c, rfl, of_decide_eq_true (List.all_eq_true.mp sign_ok c hc)⟩
end Hl

set_option Elab.async false
set_option linter.all false
set_option maxRecDepth 100000
set_option maxHeartbeats 4000000
/-! _law_bent_text -/
namespace Hl
open PySem PySem.Spec PyProof.Rows L2 Tk
abbrev sBt : Stmt := topS 57
section
variable {P : Program} {w : World} {K : PySem.W.Frag} {mg : Str → Option Value} {base : Heap}
def spBt : Sp := fun vs H Q _ => ∃ (p l : Addr) (z : Str) (S : List Str) (n : Nat), vs = [.ref p, .str z] ∧ Deal H p l ∧ TxO S n z ∧ n ≤ 20000 ∧ ∀ (H' : Hp) (z' : Str), Kp H H' → Deal H' p l → Bent S n z' → Q (.str z') H'
abbrev nmBt : List Str := ["_law_deal_here", "_law_text", "_law_at", "_law_sign", "_law_way", "_law_words", "_law_spot", "_law_fresh"]
theorem scBt : FnScope nmBt ["_law_deal_here", "_law_text"] (defScope sBt) := ⟨rfl, rfl, rfl, by decide +kernel, rfl, by decide +kernel, by decide +kernel⟩
theorem ok_bt {f fK fO : Addr} {fd dK dO : FuncData} {k : Nat} (F : Fun K "_law_bent_text" "_law_bent_text" sBt f fd) (B : Bi mg) (Gk : Has P w K mg base k "_law_pick" ["_law_deal_here", "_law_many"] spPick fK dK) (Go : Has P w K mg base k "_law_of" ["_law_deal_here", "_law_some"] spOf fO dO) : FnOk P w K mg base CX0 (k + 1) f fd ["_law_deal_here", "_law_text"] spBt := by
  refine F.ok scBt (fun vs H Q E h => ?_) (fun cdv A outer s H vs Q E hr h => ?_)
  · obtain ⟨p, l, z, S, n, rfl, _⟩ := h
    rfl
  · obtain ⟨p, l, z, S, n, rfl, dl, tx, ln, q⟩ := h
    refine ⟨_, (pss_cons (ps_set (i := 2) scBt.nd rfl (.inl rfl) (pe_call Gk.G hr (by rfl) Gk.g Gk.kp Gk.b .nil pass0 (pa_cons (pv 0) (pa_cons (pe_op op_add (pe_callB call_len_str (by rfl) B.len PySem.boot_len (pa_cons (pv 1) pa_nil)) pe_int) pa_nil))))
        (pss_cons (ps_set (i := 3) scBt.nd rfl (.inl rfl) (pe_call Go.G hr (by rfl) Go.g Go.kp Go.b .nil pass0 (pa_cons (pv 0) (pa_cons (pe_callTy (Lx.call_list_tx rfl) (by rfl) B.lst (by decide +kernel) (pa_cons pe_str pa_nil)) pa_nil))))
        (pss_cons (ps_set (i := 4) scBt.nd rfl (.inl rfl) (pe_call Gk.G hr (by rfl) Gk.g Gk.kp Gk.b .nil pass0 (pa_cons (pv 0) (pa_cons pe_int pa_nil))))
        (pss_cons (ps_set (i := 5) scBt.nd rfl (.inl rfl) (pe_split (pv 1) pe_str))
        (Evl.pss_cut (ps_set (i := 6) scBt.nd rfl (.inl rfl) (pe_call Gk.G hr (by rfl) Gk.g Gk.kp Gk.b .nil pass0 (pa_cons (pv 0) (pa_cons (pe_callB call_len_seq (by rfl) B.len PySem.boot_len (pa_cons (pv 5) pa_nil)) pa_nil))))
        (pss_cons (ps_if (pt_cmpR op_eq (pv 4) pe_int (nomark _)) (pss_one (ps_ret (pe_op op_add_str (pe_op op_add_str (pe_slice sl_str (pv 1) po_none (po_some (pv 2))) (pv 3)) (pe_slice sl_str (pv 1) (po_some (pv 2)) po_none)))) pss_nil)
        (pss_cons (ps_if (pt_cmpR op_eq (pv 4) pe_int (nomark _)) (pss_one (ps_ret (pe_op op_add_str (pe_slice sl_str (pv 1) po_none (po_some (pv 2))) (pe_slice sl_str (pv 1) (po_some (pe_op op_add (pv 2) pe_int)) po_none)))) pss_nil)
        (pss_cons (ps_if (pt_cmpR op_eq (pv 4) pe_int (nomark _)) (pss_one (ps_ret (pe_op op_add_str (pe_op op_add_str (pe_slice sl_str (pv 1) po_none (po_some (pv 2))) (pv 3)) (pe_slice sl_str (pv 1) (po_some (pe_op op_add (pv 2) pe_int)) po_none)))) pss_nil)
        (pss_cons (ps_if (pt_cmpR op_eq (pv 4) pe_int (nomark _)) (pss_one (ps_ret (pe_slice sl_str (pv 1) po_none (po_some (pv 2))))) pss_nil)
        (pss_cons (ps_if (pt_cmpR op_eq (pv 4) pe_int (nomark _)) (pss_one (ps_ret (pe_join pe_str (pe_op op_cat (pe_slice sl_list (pv 5) po_none (po_some (pv 6))) (pe_slice sl_list (pv 5) (po_some (pe_op op_add (pv 6) pe_int)) po_none))))) pss_nil)
        (pss_cons (ps_set (i := 7) scBt.nd rfl (.inl rfl) (pe_call Go.G hr (by rfl) Go.g Go.kp Go.b .nil pass0 (pa_cons (pv 0) (pa_cons (pe_lst (pa_cons pe_str (pa_cons pe_str (pa_cons pe_str (pa_cons pe_str (pa_cons pe_str (pa_cons pe_str (pa_cons pe_str (pa_cons pe_str (pa_cons pe_str (pa_cons pe_str (pa_cons pe_str (pa_cons pe_str pa_nil))))))))))))) pa_nil))))
        (pss_one (ps_ret (pe_join pe_str (pe_op op_cat (pe_op op_cat (pe_slice sl_list (pv 5) po_none (po_some (pv 6))) (pe_lst (pa_cons (pv 7) pa_nil))) (pe_slice sl_list (pv 5) (po_some (pe_op op_sub (pe_op op_add (pv 6) (pv 4)) pe_int)) po_none)))))))))))))))), ?_⟩
    have lz := tx.len
    have szl : ∀ {j : Nat}, j ≤ 100000 → j ≤ sizeLine := fun {j} h => Nat.le_trans h (by decide)
    refine ⟨_, rfl, _, rfl, z, rfl, szl (by omega), _, _, rfl, rfl, p, l, _, rfl, dl, by omega, lg (b := 20) (by omega) (by decide) (by decide), fun H1 at' k1 dl1 a0 a1 => ?_⟩
    obtain ⟨a, rfl⟩ := Int.eq_ofNat_of_zero_le a0
    refine ⟨_, rfl, signW, rfl, (by show 27 ≤ sizeLine; decide), fun c nc => ?_⟩
    have sc := same_upd (o := .lst (Lx.sgns signW)) nc
    refine ⟨p, l, c, Lx.sgns signW, rfl, dl1.same sc, upd_same, (nd_strs (ns := (cL signW).map fun c => mkS [c])), (by decide +kernel), (by decide +kernel), fun H2 x hx k2 dl2 => ?_⟩
    obtain ⟨sg, rfl, hs⟩ := sign_mem hx
    refine ⟨_, rfl, p, l, 7, rfl, dl2, by decide, lg (b := 11) (by decide) (by decide) (by decide), fun H3 wy k3 dl3 w0 w7 => ?_⟩
    have k03 := (k1.trans ((Kp.of sc).trans k2)).trans k3
    clear k1 k2 k3 sc dl1 dl2 hx
    obtain ⟨ys, ey, ej, ne⟩ := split_words z
    have wo := wdo_of tx ej ne
    have wl := wo.len
    have ylen : 0 < ys.length := List.length_pos_iff.mpr ne
    refine ⟨_, rfl, ⟨_, rfl⟩, _, _, rfl, rfl, (by decide +kernel), szl (by omega), fun W nW => ?_⟩
    rw [ey]
    have sW := same_upd (o := .lst (ys.map V.str)) nW
    have hW : (upd H3 W (.lst (ys.map V.str))) W = some (.lst (ys.map V.str)) := upd_same
    have dlW := dl3.same sW
    have k04 := k03.trans (Kp.of sW)
    generalize upd H3 W (.lst (ys.map V.str)) = H4 at *
    refine ⟨fun σ' H' => ∃ sp : Nat, σ' = [some (.ref p), some (.str z), some (.int (a : Int)), some (.str (mkS [sg])), some (.int wy), some (.ref W), some (.int (sp : Int)), none] ∧ 0 ≤ wy ∧ wy < 7 ∧ Kp H H' ∧ Deal H' p l ∧ H' W = some (.lst (ys.map V.str)), ?_, ?_⟩
    · refine ⟨_, rfl, _, rfl, W, _, rfl, .inl (SqL.of hW), p, l, _, rfl, dlW, by rw [List.length_map]; omega, lg (b := 20) (by rw [List.length_map]; omega) (by decide) (by decide), fun H5 sp k5 dl5 s0 s1 => ?_⟩
      obtain ⟨sn, rfl⟩ := Int.eq_ofNat_of_zero_le s0
      exact ⟨sn, rfl, w0, w7, k04.trans k5, dl5, k5.keep _ _ nd_strs hW⟩
    rintro σ' H5 ⟨sp, rfl, w0, w7, k05, dl5, hW5⟩
    clear k04 k03 dl3 dlW hW sW nW
    have lcut : ∀ lo hi, (cutS z lo hi).length ≤ 20000 := fun lo hi => by
      have := cutS_len z lo hi
      omega
    have l1 : (mkS [sg]).length = 1 := rfl
    have si : ((sp : Nat) : Int) + 1 = ((sp + 1 : Nat) : Int) := by omega
    have ai : ((a : Nat) : Int) + 1 = ((a + 1 : Nat) : Int) := by omega
    have zz : z.length ≤ sizeLine := szl (by omega)
    -- a sign put in
    refine ⟨_, rfl, rfl, _, rfl, ?_⟩
    by_cases c0 : wy = 0
    · refine iT (decide_eq_true (by rw [c0])) ?_
      refine ⟨_, rfl, _, rfl, _, rfl, z, rfl, zz, _, rfl, _, _, rfl, rfl, szl (j := (cutS z none (some (a : Int))).length + (mkS [sg]).length) (by rw [l1]; have := lcut none (some (a : Int)); omega), _, rfl, _, rfl, _, rfl, z, rfl, zz, _, _, rfl, rfl, szl (j := (cutS z none (some (a : Int)) ++ mkS [sg]).length + (cutS z (some (a : Int)) none).length) (by have := lcut none (some (a : Int)); have := lcut (some (a : Int)) none; rw [str_len_append, l1]; omega), ?_⟩
      exact q H5 _ k05 dl5 (bent_put tx (Nat.le_refl _) hs)
    refine iF (decide_eq_false (fun h => c0 (V.int.inj h))) ?_
    refine ⟨_, rfl, rfl, _, rfl, ?_⟩
    by_cases c1 : wy = 1
    · refine iT (decide_eq_true (by rw [c1])) ?_
      refine ⟨_, rfl, _, rfl, _, rfl, z, rfl, zz, ?_⟩
      refine ⟨_, rfl, _, rfl, _, _, rfl, rfl, _, rfl, z, rfl, zz, _, _, rfl, rfl, ?_⟩
      dsimp only
      rw [ai]
      exact ⟨szl (by have := lcut none (some (a : Int)); have := lcut (some ((a + 1 : Nat) : Int)) none; omega), q H5 _ k05 dl5 (bent_out tx (Nat.le_succ _))⟩
    refine iF (decide_eq_false (fun h => c1 (V.int.inj h))) ?_
    refine ⟨_, rfl, rfl, _, rfl, ?_⟩
    by_cases c2 : wy = 2
    · refine iT (decide_eq_true (by rw [c2])) ?_
      refine ⟨_, rfl, _, rfl, _, rfl, z, rfl, zz, _, rfl, _, _, rfl, rfl, szl (j := (cutS z none (some (a : Int))).length + (mkS [sg]).length) (by rw [l1]; have := lcut none (some (a : Int)); omega), _, rfl, _, rfl, _, _, rfl, rfl, _, rfl, z, rfl, zz, _, _, rfl, rfl, ?_⟩
      dsimp only
      rw [ai]
      exact ⟨szl (j := (cutS z none (some (a : Int)) ++ mkS [sg]).length + (cutS z (some ((a + 1 : Nat) : Int)) none).length) (by have := lcut none (some (a : Int)); have := lcut (some ((a + 1 : Nat) : Int)) none; rw [str_len_append, l1]; omega), q H5 _ k05 dl5 (bent_put tx (Nat.le_succ _) hs)⟩
    refine iF (decide_eq_false (fun h => c2 (V.int.inj h))) ?_
    refine ⟨_, rfl, rfl, _, rfl, ?_⟩
    by_cases c3 : wy = 3
    · refine iT (decide_eq_true (by rw [c3])) ?_
      exact ⟨_, rfl, _, rfl, _, rfl, z, rfl, zz, q H5 _ k05 dl5 (bent_cut tx)⟩
    refine iF (decide_eq_false (fun h => c3 (V.int.inj h))) ?_
    refine ⟨_, rfl, rfl, _, rfl, ?_⟩
    by_cases c4 : wy = 4
    · refine iT (decide_eq_true (by rw [c4])) ?_
      refine ⟨⟨_, rfl⟩, _, rfl, _, rfl, _, rfl, W, _, rfl, SqL.of hW5, fun u nu => ?_⟩
      rw [cutV_L, ← List.map_take]
      have s1 := same_upd (o := .lst ((ys.take sp).map V.str)) nu
      have h1 : (upd H5 u (.lst ((ys.take sp).map V.str))) u = some (.lst ((ys.take sp).map V.str)) := upd_same
      generalize upd H5 u (.lst ((ys.take sp).map V.str)) = H6 at *
      refine ⟨_, rfl, _, rfl, _, _, rfl, rfl, _, rfl, W, _, rfl, SqL.of (s1 _ _ hW5), fun u2 nu2 => ?_⟩
      dsimp only
      rw [si, cutV_R, ← List.map_drop]
      have s2 := same_upd (o := .lst ((ys.drop (sp + 1)).map V.str)) nu2
      have h2 : (upd H6 u2 (.lst ((ys.drop (sp + 1)).map V.str))) u2 = some (.lst ((ys.drop (sp + 1)).map V.str)) := upd_same
      generalize upd H6 u2 (.lst ((ys.drop (sp + 1)).map V.str)) = H7 at *
      have wb := wo.out (k := sp) (j := sp + 1) (by omega)
      have wbl := wb.len
      refine ⟨u, u2, _, _, rfl, rfl, s2 _ _ h1, h2, szl (by rw [List.length_map, List.length_map]; rw [List.length_append] at wbl; omega), fun u3 nu3 => ?_⟩
      rw [← List.map_append]
      have s3 := same_upd (o := .lst ((ys.take sp ++ ys.drop (sp + 1)).map V.str)) nu3
      refine ⟨" ", u3, _, rfl, rfl, .inl (SqL.of upd_same), ?_, ?_⟩
      · rw [show (" " : Str).length = 1 by decide +kernel]
        omega
      · have ss := (s1.trans s2).trans s3
        exact q _ _ (k05.trans (Kp.of ss)) (dl5.same ss) (bent_words wb (by omega) (by omega))
    refine iF (decide_eq_false (fun h => c4 (V.int.inj h))) ?_
    -- another word
    refine ⟨_, rfl, (by show 12 ≤ sizeLine; decide), fun c nc => ?_⟩
    have sc := same_upd (o := .lst (freshW.map V.str)) nc
    refine ⟨p, l, c, freshW.map V.str, rfl, dl5.same sc, upd_same, nd_strs, by decide, by decide, fun H6 x hx k6 dl6 => ?_⟩
    obtain ⟨f, hf, rfl⟩ := List.mem_map.mp hx
    obtain ⟨fl, fa, fr⟩ := fresh_ok hf
    have k56 := (Kp.of sc).trans k6
    have k06 := k05.trans k56
    have hW6 := k56.keep _ _ nd_strs hW5
    refine ⟨⟨_, rfl⟩, _, rfl, _, rfl, _, rfl, W, _, rfl, SqL.of hW6, fun u nu => ?_⟩
    rw [cutV_L, ← List.map_take]
    have s1 := same_upd (o := .lst ((ys.take sp).map V.str)) nu
    have h1 : (upd H6 u (.lst ((ys.take sp).map V.str))) u = some (.lst ((ys.take sp).map V.str)) := upd_same
    generalize upd H6 u (.lst ((ys.take sp).map V.str)) = H7 at *
    refine ⟨_, rfl, (by show 1 ≤ sizeLine; decide), fun u1 nu1 => ?_⟩
    have s2 := same_upd (o := .lst [.str f]) nu1
    have h2 : (upd H7 u1 (.lst [.str f])) u1 = some (.lst [.str f]) := upd_same
    generalize upd H7 u1 (.lst [.str f]) = H8 at *
    have ltk : (ys.take sp).length ≤ 20001 := by
      rw [List.length_take]
      have := Nat.min_le_right sp ys.length
      omega
    refine ⟨u, u1, _, _, rfl, rfl, s2 _ _ h1, h2, szl (by rw [List.length_map]; show _ + 1 ≤ _; omega), fun u2 nu2 => ?_⟩
    have s3 := same_upd (o := .lst ((ys.take sp).map V.str ++ [.str f])) nu2
    have h3 : (upd H8 u2 (.lst ((ys.take sp).map V.str ++ [.str f]))) u2 = some (.lst ((ys.take sp).map V.str ++ [.str f])) := upd_same
    generalize upd H8 u2 (.lst ((ys.take sp).map V.str ++ [.str f])) = H9 at *
    have s13 := (s1.trans s2).trans s3
    obtain ⟨j, ej, hj⟩ : ∃ j : Nat, ((sp : Int) + wy) - 5 = (j : Int) ∧ sp ≤ j := ⟨(((sp : Int) + wy) - 5).toNat, by omega, by omega⟩
    refine ⟨_, rfl, _, rfl, _, rfl, _, _, rfl, rfl, _, _, rfl, rfl, _, rfl, W, _, rfl, SqL.of (s13 _ _ hW6), fun u4 nu4 => ?_⟩
    dsimp only
    rw [ej, cutV_R, ← List.map_drop]
    have s4 := same_upd (o := .lst ((ys.drop j).map V.str)) nu4
    have h4 : (upd H9 u4 (.lst ((ys.drop j).map V.str))) u4 = some (.lst ((ys.drop j).map V.str)) := upd_same
    generalize upd H9 u4 (.lst ((ys.drop j).map V.str)) = H10 at *
    have wb := wo.ins hj fr fa fl
    have wbl := wb.len
    refine ⟨u2, u4, _, _, rfl, rfl, s4 _ _ h3, h4, szl (by rw [List.length_append, List.length_map, List.length_map]; rw [List.length_append, List.length_append] at wbl; show _ + 1 + _ ≤ _; have : ([f] : List Str).length = 1 := rfl; omega), fun u3 nu3 => ?_⟩
    have em : (ys.take sp).map V.str ++ [.str f] ++ (ys.drop j).map V.str = ((ys.take sp ++ [f]) ++ ys.drop j).map V.str := by
      rw [List.map_append, List.map_append]
      rfl
    rw [em]
    have s5 := same_upd (o := .lst (((ys.take sp ++ [f]) ++ ys.drop j).map V.str)) nu3
    refine ⟨" ", u3, _, rfl, rfl, .inl (SqL.of upd_same), ?_, ?_⟩
    · rw [show (" " : Str).length = 1 by decide +kernel]
      omega
    · have ss := (s13.trans s4).trans s5
      exact q _ _ (k06.trans (Kp.of ss)) (dl6.same ss) (bent_words wb (by simp only [List.length_cons]; omega) (by omega))
end
end Hl

set_option Elab.async false
set_option linter.all false
set_option maxRecDepth 100000
set_option maxHeartbeats 4000000
/-! texts of drawn rules, written texts: few words -/
namespace Hl
open PySem PySem.Spec PyProof.Rows L2 Tk
theorem joinW_mem {m x : Str} : ∀ {xs : List (List Str)}, x ∈ joinW m xs → x = m ∨ ∃ w ∈ xs, x ∈ w
  | [], h => nomatch h
  | [y], h => .inr ⟨y, List.mem_cons_self, h⟩
  | y :: z :: r, h => by
    have h' : x ∈ y ++ (m :: joinW m (z :: r)) := h
    rcases List.mem_append.mp h' with h | h
    · exact .inr ⟨y, List.mem_cons_self, h⟩
    · rcases List.mem_cons.mp h with h | h
      · exact .inl h
      · rcases joinW_mem h with h | ⟨w, hw, h⟩
        · exact .inl h
        · exact .inr ⟨w, List.mem_cons_of_mem _ hw, h⟩
theorem joinG_mem {g : List Nat} {c : Nat} : ∀ {ws : List (List Nat)}, c ∈ TL.joinL g ws → c ∈ g ∨ ∃ w ∈ ws, c ∈ w
  | [], h => nomatch h
  | [x], h => .inr ⟨x, List.mem_cons_self, h⟩
  | x :: y :: r, h => by
    have h' : c ∈ x ++ (g ++ TL.joinL g (y :: r)) := h
    rcases List.mem_append.mp h' with h | h
    · exact .inr ⟨x, List.mem_cons_self, h⟩
    · rcases List.mem_append.mp h with h | h
      · exact .inl h
      · rcases joinG_mem h with h | ⟨w, hw, h⟩
        · exact .inl h
        · exact .inr ⟨w, List.mem_cons_of_mem _ hw, h⟩
/-- words of letters -/
def LtW (w : Str) : Prop := cL w ≠ [] ∧ ∀ c ∈ cL w, grp c = 2
theorem not_num {k : Int} (h : 0 ≤ k) (h2 : k ≤ 12) (l : LtW (nt k)) : False := by
  obtain ⟨_, n, g⟩ := num_one h h2
  cases e : cL (nt k) with
  | nil => exact n e
  | cons c r =>
    have h1 := g c (by rw [e]; exact List.mem_cons_self)
    have h2 := l.2 c (by rw [e]; exact List.mem_cons_self)
    rw [h1] at h2
    cases h2
theorem not_c (l : LtW ",") : False := by
  have := l.2 44 (by decide +kernel)
  exact absurd this (by decide)
theorem not_sc (l : LtW ";") : False := by
  have := l.2 59 (by decide +kernel)
  exact absurd this (by decide)
theorem prs_lt {ps : List (Str × Int)} (ok : PrsOk ps) {x : Str} (h : x ∈ prsW ps) (l : LtW x) : ∃ p ∈ ps, x = p.1 := by
  unfold prsW at h
  rcases joinW_mem h with rfl | ⟨w, hw, hx⟩
  · exact (not_c l).elim
  · obtain ⟨p, hp, rfl⟩ := List.mem_map.mp hw
    unfold prW at hx
    split at hx
    · exact ⟨p, hp, List.mem_singleton.mp hx⟩
    · rcases List.mem_cons.mp hx with h | h
      · exact ⟨p, hp, h⟩
      · rw [List.mem_singleton.mp h] at l
        have := ok.one p hp
        have := ok.four p hp
        exact (not_num (by omega) (by omega) l).elim
theorem rl_lt {r : Rl} (ok : RlOk r) {x : Str} (h : x ∈ rlW r) (l : LtW x) : x ∈ keptW ∨ (∃ p ∈ r.ws, x = p.1) ∨ ∃ p ∈ r.gs, x = p.1 := by
  unfold rlW at h
  rcases List.mem_cons.mp h with rfl | h
  · exact .inl (by decide)
  rcases List.mem_cons.mp h with rfl | h
  · have := ok.e
    exact (not_num (by omega) (by omega) l).elim
  rcases List.mem_append.mp h with h | h
  · unfold afW at h
    split at h
    · cases h
    · rcases List.mem_cons.mp h with rfl | h
      · exact .inl (by decide)
      · rw [List.mem_singleton.mp h] at l
        have := ok.a
        exact (not_num (by omega) (by omega) l).elim
  rcases List.mem_cons.mp h with rfl | h
  · exact .inl (by decide)
  rcases List.mem_append.mp h with h | h
  · exact .inr (.inl (prs_lt ok.ws h l))
  rcases List.mem_cons.mp h with rfl | h
  · exact .inl (by decide)
  rcases List.mem_append.mp h with h | h
  · exact .inr (.inr (prs_lt ok.gs h l))
  · cases hm : r.m with
    | none => rw [hm] at h; cases h
    | some k =>
      rw [hm] at h
      have := ok.m k hm
      rcases List.mem_cons.mp h with rfl | h
      · exact .inl (by decide)
      rcases List.mem_cons.mp h with rfl | h
      · exact .inl (by decide)
      rw [List.mem_singleton.mp h] at l
      exact (not_num (by omega) (by omega) l).elim
theorem nt_asc {k : Int} (h : 0 ≤ k) (h2 : k ≤ 12) : ∀ c ∈ cL (nt k), c < 128 := fun c hc => by
  have := (num_one h h2).2.2 c hc
  unfold grp at this
  split at this
  · cases this
  · split at this
    · omega
    · cases this
theorem kept_asc : (keptW.all fun s => (cL s).all fun c => decide (c < 128)) = true := by decide +kernel
theorem kept_lt {s : Str} (h : s ∈ keptW) : ∀ c ∈ cL s, c < 128 := fun c hc => of_decide_eq_true (List.all_eq_true.mp (List.all_eq_true.mp kept_asc s h) c hc)
theorem prs_asc {ps : List (Str × Int)} (ok : PrsOk ps) : ∀ c ∈ prsL [] [32] [32] ps, c < 128 := fun c hc => by
  unfold prsL at hc
  rcases joinG_mem hc with h | ⟨w, hw, h⟩
  · rcases List.mem_cons.mp h with rfl | h
    · decide
    · rw [List.mem_singleton.mp h]; decide
  · obtain ⟨p, hp, rfl⟩ := List.mem_map.mp hw
    have g : ∀ c ∈ cL p.1, c < 128 := fun c hc => by
      have := (ok.good p hp).az c hc
      omega
    unfold prL at h
    split at h
    · exact g c h
    · rcases List.mem_append.mp h with h | h
      · exact g c h
      · rcases List.mem_append.mp h with h | h
        · rw [List.mem_singleton.mp h]; decide
        · have := ok.one p hp
          have := ok.four p hp
          exact nt_asc (by omega) (by omega) c h
theorem rs_asc {rs : List Rl} (ok : ∀ r ∈ rs, RlOk r) : ∀ c ∈ rsL rs, c < 128 := fun c hc => by
  unfold rsL at hc
  rcases joinG_mem hc with h | ⟨w, hw, h⟩
  · rcases List.mem_cons.mp h with rfl | h
    · decide
    · rw [List.mem_singleton.mp h]; decide
  obtain ⟨r, hr, rfl⟩ := List.mem_map.mp hw
  have o := ok r hr
  unfold plL rlL at h
  rcases joinG_mem h with h | ⟨w, hw, h⟩
  · rw [List.mem_singleton.mp h]; decide
  unfold rlG at hw
  rcases List.mem_cons.mp hw with rfl | hw
  · exact kept_lt (by decide) c h
  rcases List.mem_cons.mp hw with rfl | hw
  · have := o.e
    exact nt_asc (by omega) (by omega) c h
  rcases List.mem_append.mp hw with hw | hw
  · unfold afL at hw
    split at hw
    · cases hw
    · rcases List.mem_cons.mp hw with rfl | hw
      · exact kept_lt (by decide) c h
      · rw [List.mem_singleton.mp hw] at h
        have := o.a
        exact nt_asc (by omega) (by omega) c h
  rcases List.mem_cons.mp hw with rfl | hw
  · exact kept_lt (by decide) c h
  rcases List.mem_cons.mp hw with rfl | hw
  · exact prs_asc o.ws c h
  rcases List.mem_cons.mp hw with rfl | hw
  · exact kept_lt (by decide) c h
  rcases List.mem_cons.mp hw with rfl | hw
  · exact prs_asc o.gs c h
  cases hm : r.m with
  | none => rw [hm] at hw; cases hw
  | some k =>
    rw [hm] at hw
    have := o.m k hm
    rcases List.mem_cons.mp hw with rfl | hw
    · exact kept_lt (by decide) c h
    rcases List.mem_cons.mp hw with rfl | hw
    · exact kept_lt (by decide) c h
    rw [List.mem_singleton.mp hw] at h
    exact nt_asc (by omega) (by omega) c h
theorem txo_rules {rs : List Rl} (ok : Rls rs) : ∃ S : List Str, S.length ≤ 12 ∧ TxO S 10980 (rsT rs) := by
  obtain ⟨ins, outs, li, lo, hf⟩ := ok.few
  have okr : ∀ r ∈ rs, RlOk r := fun r hr => rlOk_of (ok.ok r hr)
  refine ⟨keptW ++ (ins ++ outs), ?_, ?_, ?_, ?_⟩
  · rw [List.length_append, List.length_append]
    show 6 + _ ≤ _
    omega
  · unfold rsT
    rw [mk_len]
    exact rsL_le ok
  · exact rs_asc okr
  · show Rn _ (rsL rs)
    have n0 : rs ≠ [] := fun z => by
      have := ok.n1
      rw [z] at this
      exact absurd this (by decide)
    have wd := (It.rules okr n0).wd (rsL rs).length 0 (Nat.le_refl _)
    refine Rn.of _ 0 _ (Nat.le_refl _) fun p hp n l => ?_
    have hm : p.2 ∈ (rsW rs).map cL ++ [[]] := by
      rw [← wd]
      exact List.mem_map_of_mem hp
    rcases List.mem_append.mp hm with hm | hm
    · obtain ⟨x, hx, ex⟩ := List.mem_map.mp hm
      rw [← ex, mk_cL]
      have lx : LtW x := ⟨by rw [ex]; exact n, by rw [ex]; exact l⟩
      unfold rsW at hx
      rcases joinW_mem hx with rfl | ⟨w, hw, hx⟩
      · exact (not_sc lx).elim
      obtain ⟨r, hr, rfl⟩ := List.mem_map.mp hw
      rcases rl_lt (okr r hr) hx lx with h | ⟨q, hq, rfl⟩ | ⟨q, hq, rfl⟩
      · exact List.mem_append_left _ h
      · exact List.mem_append_right _ (List.mem_append_left _ ((hf r hr).1 q hq))
      · exact List.mem_append_right _ (List.mem_append_right _ ((hf r hr).2 q hq))
    · exact absurd (List.mem_singleton.mp hm) n
/-- a text that may be asked -/
def TxG (z : Str) : Prop := ∃ S : List Str, S.length ≤ 63 ∧ TxO S 20000 z
theorem TxG.nm {z : Str} (h : TxG z) (rs : List Rl) (e : rdAll (toks z) = .ok rs) : NmOk rs := by
  obtain ⟨S, ls, t⟩ := h
  exact nmOk_of t.rn ls rs e
theorem TxG.len {z : Str} (h : TxG z) : z.length ≤ 20000 := by
  obtain ⟨S, ls, t⟩ := h
  exact t.len
theorem TxG.asc {z : Str} (h : TxG z) : ∀ c ∈ z.cps.toList, c < 128 := by
  obtain ⟨S, ls, t⟩ := h
  exact t.asc
def lawS : List Str := ["each", "with", "gives", "at", "most", "a", "b", "c", "d", "e", "f"]
def chkT (z : Str) : Bool := decide (z.length ≤ 20000) && ((cL z).all (fun c => decide (c < 128)) && (pcs (cL z).length 0 (cL z)).all fun p => p.2.isEmpty || (!(p.2.all fun c => grp c == 2) || lawS.contains (mkS p.2)))
theorem TxG.of {z : Str} (h : chkT z = true) : TxG z := by
  unfold chkT at h
  simp only [Bool.and_eq_true, decide_eq_true_eq, List.all_eq_true] at h
  refine ⟨lawS, by decide, h.1, h.2.1, Rn.of _ 0 _ (Nat.le_refl _) fun p hp n l => ?_⟩
  have := h.2.2 p hp
  simp only [Bool.or_eq_true, Bool.not_eq_true'] at this
  rcases this with h | h | h
  · exact absurd (List.isEmpty_iff.mp h) n
  · rw [List.all_eq_true.mpr (fun c hc => by simpa using l c hc)] at h
    cases h
  · exact List.contains_iff_mem.mp h
def law1 : List Str := ["", " ", "each", "each 1 with a gives", "each 1 with a gives b,", "each 1 with a gives b;", ";"]
def law2 : List Str := ["each 0 with a gives b", "each 1 with a 1 gives b", "each 1 with a, a gives b"]
def law3 : List Str := ["each 1with a gives b2", "each1 with a gives b at most7", "each 1 with at gives b"]
def law4 : List Str := [12, 13].map fun k : Nat => Txt.join "; " (List.replicate k "each 1 with a gives b")
def law5 : List Str := ["each 1 with a, b, c, d gives e", "each 1 with a gives b; each 2 with c gives d, e, f"]
theorem laws_ok : ((law1 ++ law2 ++ law3 ++ law4 ++ law5).all chkT) = true := by decide +kernel
theorem laws_G {z : Str} (h : z ∈ law1 ++ law2 ++ law3 ++ law4 ++ law5) : TxG z := TxG.of (List.all_eq_true.mp laws_ok z h)
end Hl

set_option Elab.async false
set_option linter.all false
set_option maxRecDepth 100000
set_option maxHeartbeats 4000000
namespace Hl
open PySem PySem.Spec PyProof.Rows L2 LamX Tk
abbrev sLaw : Stmt := topS 58
theorem nd_tbl {ps : Array Value} : Nd (.tbl ps) := fun _ _ _ _ _ h => by cases h
theorem nd_code {c : Addr} {q : Str} : Nd (CodeO c q) := fun _ _ _ _ _ h => by
  unfold CodeO at h
  cases h
theorem ni_tbl {ps : Array Value} : Ni (.tbl ps) := fun _ _ _ h => by cases h
theorem ni_code {c : Addr} {q : Str} : Ni (CodeO c q) := fun _ _ _ h => by
  unfold CodeO at h
  cases h
theorem tabs_kp {T : List (Addr × Str)} {H H' : Hp} (k : Kp H H') (t : Tabs T H) : Tabs T H' := fun p hp => by
  obtain ⟨ps, h1, h2, h3⟩ := t p hp
  refine ⟨ps, k.keep _ _ nd_tbl h1, h2, fun pos cv hc => ?_⟩
  obtain ⟨c, e1, e2⟩ := h3 pos cv hc
  exact ⟨c, e1, k.keep _ _ nd_code e2⟩
theorem tabs_ki {T : List (Addr × Str)} {H H' : Hp} (k : Ki H H') (t : Tabs T H) : Tabs T H' := fun p hp => by
  obtain ⟨ps, h1, h2, h3⟩ := t p hp
  refine ⟨ps, k.keep _ _ ni_tbl h1, h2, fun pos cv hc => ?_⟩
  obtain ⟨c, e1, e2⟩ := h3 pos cv hc
  exact ⟨c, e1, k.keep _ _ ni_code e2⟩
theorem ext_lst {H H' : Hp} {b : Addr} {xs : List V} (e : ExtN H H') (h : H b = some (.lst xs)) : H' b = some (.lst xs) := e _ _ h (fun ps h => by cases h)
theorem moreR_len : ∀ {n : Nat} {rs rs' : List Rl} {ts : List Tok}, rdMoreR n rs ts = .ok rs' → rs'.length ≤ rs.length + n
  | 0, rs, rs', ts, h => by
    unfold rdMoreR at h
    split at h
    · cases h; exact Nat.le_refl _
    · cases h
  | n + 1, rs, rs', ts, h => by
    unfold rdMoreR at h
    split at h
    · cases h; exact Nat.le_add_right _ _
    · cases h1 : rdOne ";" ts with
      | error x => rw [h1] at h; cases h
      | ok q1 =>
        obtain ⟨u1, t1⟩ := q1
        rw [h1] at h
        dsimp only at h
        cases h2 : rdRule t1 with
        | error x => rw [h2] at h; cases h
        | ok q2 =>
          obtain ⟨r, t2⟩ := q2
          rw [h2] at h
          have := moreR_len h
          rw [List.length_append] at this
          have e1 : ([r] : List Rl).length = 1 := rfl
          omega
theorem rd_len {ts : List Tok} {rs : List Rl} (h : rdAll ts = .ok rs) : rs.length ≤ 12 := by
  unfold rdAll at h
  cases h2 : rdRule ts with
  | error x => rw [h2] at h; cases h
  | ok q2 =>
    obtain ⟨r, t2⟩ := q2
    rw [h2] at h
    exact moreR_len h
theorem lk_pair {K : PySem.W.Frag} {H : Hp} {n : Nat} : ∀ {vs us : List V} {ps : List (Str × Int)}, Paired (PairAt H) vs ps → Paired (PairAt H) us ps → Paired (Lk K H (n + 1)) vs us
  | _, _, _, .nil, .nil => .nil
  | _, _, _, .cons ⟨a, e1, h1⟩ r, .cons ⟨b, e2, h2⟩ r2 => by
    subst e1
    subst e2
    exact .cons (lk_tup (SqT.of h1) (SqT.of h2) (.cons (.str _) (.cons (.int _) .nil)) (by show 2 ≤ 1000; decide)) (lk_pair r r2)
theorem lk_mo {K : PySem.W.Frag} {H : Hp} {n : Nat} : ∀ m : Option Int, Lk K H n (moV m) (moV m)
  | none => .non
  | some k => .int k
theorem lk_rule {K : PySem.W.Frag} {H : Hp} {n : Nat} {v u : V} {r : Rl} (l1 : r.ws.length ≤ 1000) (l2 : r.gs.length ≤ 1000) (h : RuleAt H v r) (h' : RuleAt H u r) : Lk K H (n + 3) v u := by
  obtain ⟨t, wt, gt, rfl, ht, ⟨a1, b1, c1⟩, ⟨a2, b2, c2⟩⟩ := h
  obtain ⟨t', wt', gt', rfl, ht', ⟨a1', b1', c1'⟩, ⟨a2', b2', c2'⟩⟩ := h'
  have e1 := c1'.length
  have e2 := c2'.length
  exact lk_tup (SqT.of ht) (SqT.of ht') (.cons (.str _) (.cons (.int _) (.cons (.int _) (.cons (lk_tup (.inl b1.rd) (.inl b1'.rd) (lk_pair c1 c1') (by omega)) (.cons (lk_tup (.inl b2.rd) (.inl b2'.rd) (lk_pair c2 c2') (by omega)) (.cons (lk_mo _) .nil)))))) (by show 6 ≤ 1000; decide)
theorem lk_rules {K : PySem.W.Frag} {H : Hp} {n : Nat} : ∀ {vs us : List V} {rs : List Rl}, (∀ r ∈ rs, r.ws.length ≤ 1000 ∧ r.gs.length ≤ 1000) → Paired (RuleAt H) vs rs → Paired (RuleAt H) us rs → Paired (Lk K H (n + 3)) vs us
  | _, _, _, _, .nil, .nil => .nil
  | _, _, _, l, .cons h t, .cons h' t' => .cons (lk_rule (l _ List.mem_cons_self).1 (l _ List.mem_cons_self).2 h h') (lk_rules (fun r hr => l r (List.mem_cons_of_mem _ hr)) t t')
theorem NmOk.small {rs : List Rl} (h : NmOk rs) : ∀ r ∈ rs, r.ws.length ≤ 1000 ∧ r.gs.length ≤ 1000 := fun r hr => by
  obtain ⟨S, lS, hS⟩ := h
  have h3 := nodup_subL (hS r hr 3).1 (hS r hr 3).2
  have h4 := nodup_subL (hS r hr 4).1 (hS r hr 4).2
  have e3 : (nmR r 3).length = r.ws.length := by show (r.ws.map (·.1)).length = _; rw [List.length_map]
  have e4 : (nmR r 4).length = r.gs.length := by show (r.gs.map (·.1)).length = _; rw [List.length_map]
  omega
theorem strs_ne {zs : List Str} {x : V} {xs : List V} (h : 1 ≤ zs.length) (e : zs.map V.str = x :: xs) : ∃ z, x = .str z := by
  cases zs with
  | nil => cases h
  | cons z zs => exact ⟨z, (List.cons.inj e).1.symm⟩
theorem deal_lput {H : Hp} {p l u : Addr} {zs : List Str} {o : HO} (d : Deal H p l) (hu : H u = some (.lst (zs.map V.str))) (h1 : 1 ≤ zs.length) : Deal (upd H u o) p l := by
  obtain ⟨ns, a, z, m, c, hp, hl, r⟩ := d
  refine ⟨ns, a, z, m, c, ?_, ?_, r⟩
  · rw [upd_ne fun e => ?_]
    · exact hp
    · rw [e, hu] at hp
      obtain ⟨z, ez⟩ := strs_ne h1 (HO.lst.inj (Option.some.inj hp))
      cases ez
  · rw [upd_ne fun e => ?_]
    · exact hl
    · rw [e, hu] at hl
      have hl := HO.lst.inj (Option.some.inj hl)
      cases ns with
      | nil =>
        cases zs with
        | nil => cases h1
        | cons => cases hl
      | cons n ns =>
        obtain ⟨z, ez⟩ := strs_ne h1 hl
        cases ez
theorem tabs_lput {T : List (Addr × Str)} {H : Hp} {u : Addr} {xs : List V} {o : HO} (t : Tabs T H) (hu : H u = some (.lst xs)) : Tabs T (upd H u o) := fun p hp => by
  obtain ⟨ps, h1, h2, h3⟩ := t p hp
  refine ⟨ps, ?_, h2, fun pos cv hc => ?_⟩
  · rw [upd_ne fun e => by rw [e, hu] at h1; cases h1]
    exact h1
  · obtain ⟨c, e1, e2⟩ := h3 pos cv hc
    refine ⟨c, e1, ?_⟩
    rw [upd_ne fun e => by rw [e, hu] at e2; unfold CodeO at e2; cases e2]
    exact e2
def rJn (K : PySem.W.Frag) : V → List V → Hp → VK → Prop := fun x xs H Q => ∃ a p, ∃ ys : List Str, x = .str a ∧ xs = [.ref p] ∧ (SqL K H p (ys.map V.str) ∨ SqT K H p (ys.map V.str)) ∧ (ys.map (·.length)).sum + ys.length * a.length ≤ 16777216 ∧ Q (.str (Txt.join a ys)) H
def spLaw (K : PySem.W.Frag) (P : Addr) : Sp := fun vs H Q _ => ∃ (a : Addr) (ns : List Int), vs = [.ref a] ∧ SqL K H a (ns.map V.int) ∧ ns.length ≤ 63 ∧ H P = some (.tbl #[]) ∧ ∀ H', Q (.bl true) H'
abbrev nmLaw : List Str := ["_law_script", "_law_deal_here", "_law_some", "_law_turn", "_law_bend", "_law_text", "_law_k", "_law_rule"]
theorem scZ : FnScope nmLaw ["_law_script"] (defScope sLaw) := ⟨rfl, rfl, rfl, by decide +kernel, rfl, by decide +kernel, by decide +kernel⟩
section
variable {P : Program} {w : World} {K : PySem.W.Frag} {mg : Str → Option Value} {base : Heap}
theorem ok_law {f f1 f2 f3 f4 f5 f6 f7 fW fB BT BS c Pt : Addr} {d1 d2 d3 d4 d5 d6 d7 dW dB : FuncData} {oc kV doc pm ct : Value} {od an : Option Addr} {osl : Array (Option Value)} {Ec : Hw.ErrA} {k n : Nat}
    (lk : K.lookup f = some ⟨oc, od, .func (PySem.W.fnOf "law" "law" (defArgs sLaw) (defBody sLaw) (defScope sLaw) .none kV doc pm an (.ref c) ct), osl⟩) (hcd : PySem.W.codeIn K (.ref c) "law" = true) (TB : TabB base mg c Pt) (B : Bi mg)
    (D : Has P w K mg base (k + 2) "_law_deal" ["_law_script"] (spDeal K) f1 d1)
    (Ar : Has P w K mg base (k + 2) "_law_any_rules" ["_law_deal_here"] spAr f2 d2)
    (L : Has P w K mg base (k + 2) "_law_like" ["_law_found", "_law_due"] (spLike K (n + 8)) f3 d3)
    (Pk : Has P w K mg base (k + 2) "_law_pick" ["_law_deal_here", "_law_many"] spPick f4 d4)
    (Lr : Has P w K mg base (k + 2) "_law_rule_text" ["_law_rule", "_law_gap"] spLr f5 d5)
    (Bt : Has P w K mg base (k + 2) "_law_bent_text" ["_law_deal_here", "_law_text"] spBt f6 d6)
    (Rd : Has P w K mg base (k + 2) "_law_reading" ["_law_text"] spRdg f7 d7)
    (FW : Fun K "_law_why" "_law_why" Hw.sWhy fW dW) (gW : mg "_law_why" = some (.ref fW)) (er : Hw.Errs mg Ec)
    (GB' : FnOk P w K mg base (L2.CX P w) k fB dB ["text"] (spRrsG BT BS)) (kB : PySem.W.keepIn K (.ref fB) = true) (bB : Binds K dB ["text"] []) (gB : mg "read_rules" = some (.ref fB))
    (xfT : XfC K BT) (eT1 : PySem.W.exmAny K (.ref BT) (Ec.l1.map Value.ref) = some false) (eT2 : PySem.W.exmAny K (.ref BT) (Ec.l2.map Value.ref) = some true) (nTw : PySem.W.findIn K (.ref BT) "word" = some none) (nTa : PySem.W.findIn K (.ref BT) "at" = some none)
    (xfS : XfC K BS) (eS1 : PySem.W.exmAny K (.ref BS) (Ec.l1.map Value.ref) = some false) (eS2 : PySem.W.exmAny K (.ref BS) (Ec.l2.map Value.ref) = some false) (eS3 : PySem.W.exmAny K (.ref BS) (Ec.l3.map Value.ref) = some false) (eS4 : PySem.W.exmAny K (.ref BS) [.ref Ec.e4] = some false) (eS5 : PySem.W.exmAny K (.ref BS) [.ref Ec.e5] = some false) (eS6 : PySem.W.exmAny K (.ref BS) [.ref Ec.e6] = some true) (nSw : PySem.W.findIn K (.ref BS) "word" = some none) :
    FnOk P w K mg base CX0 (k + 3) f (PySem.W.fnOf "law" "law" (defArgs sLaw) (defBody sLaw) (defScope sLaw) .none kV doc pm an (.ref c) ct) ["_law_script"] (spLaw K Pt) := by
  refine Hw.ok_at lk hcd scZ (fun vs H Q E h => ?_) (fun A outer s H vs Q E hr h => ?_)
  · obtain ⟨a, ns, rfl, _⟩ := h
    rfl
  obtain ⟨a, ns, rfl, hS, hlen, tb0, q⟩ := h
  refine ⟨_, (pss_cons (ps_set (i := 1) scZ.nd rfl (.inl rfl) (pe_call D.G hr (by rfl) D.g D.kp D.b .nil pass0 (pa_cons (pv 0) pa_nil)))
        (Evl.pss_cut (ps_set (i := 2) scZ.nd rfl (.inl rfl) (pe_lst (pa_cons pe_str (pa_cons pe_str (pa_cons pe_str (pa_cons pe_str (pa_cons pe_str (pa_cons pe_str (pa_cons pe_str pa_nil)))))))))
        (Evl.pss_cut (ps_set (i := 2) scZ.nd rfl (.inl rfl) (pe_op op_cat (pv 2) (pe_lst (pa_cons pe_str (pa_cons pe_str (pa_cons pe_str pa_nil))))))
        (Evl.pss_cut (ps_set (i := 2) scZ.nd rfl (.inl rfl) (pe_op op_cat (pv 2) (pe_lst (pa_cons pe_str (pa_cons pe_str (pa_cons pe_str pa_nil))))))
        (Evl.pss_cut (ps_set (i := 2) scZ.nd rfl (.inl rfl) (pe_op op_cat (pv 2) (pe_lc (own := [("_law_k", 6)]) (g := gName 6) (tt := tYes) (te := (tM1 (rJn K) (tC (V.str "; ")) (tOp rRep (tLst (tCons (tC (V.str "each 1 with a gives b")) tNil)) (tVar 6)))) rfl scZ.nd (pi_tup (pe_tup (pa_cons pe_int (pa_cons pe_int pa_nil)))) (blkOk_by (own := [("_law_k", 6)]) (N := nmLaw) (sc := defScope sLaw) (by decide +kernel)) (fun _ _ _ _ _ => (pg_name (i := 6) scZ.nd rfl (Or.inl rfl))) (fun _ _ _ _ _ => pts_nil) (fun _ _ _ _ _ => (pe_join pe_str (pe_op op_rep (pe_lst (pa_cons pe_str pa_nil)) (pv 6)))))))
        (Evl.pss_cut (ps_set (i := 2) scZ.nd rfl (.inl rfl) (pe_op op_cat (pv 2) (pe_lst (pa_cons pe_str (pa_cons pe_str pa_nil)))))
        (Evl.pss_cut (ps_for PassesOwn.never rfl (pi_range1 (by rfl) B.rng (pa_cons pe_int pa_nil)) (pg_name (i := 3) scZ.nd rfl (.inl rfl))
          (Evl.pss_cut (ps_set (i := 5) scZ.nd rfl (.inr rfl) (pe_join pe_str (pe_lc (own := [("_law_rule", 7)]) (g := gName 7) (tt := tYes) rfl scZ.nd (pi_list (pe_call Ar.G hr (by rfl) Ar.g Ar.kp Ar.b .nil pass0 (pa_cons (pv 1) pa_nil))) (blkOk_by (own := [("_law_rule", 7)]) (N := nmLaw) (sc := defScope sLaw) (by decide +kernel)) (fun _ _ _ _ _ => (pg_name (i := 7) scZ.nd rfl (Or.inl rfl))) (fun _ _ _ _ _ => pts_nil) (fun _ _ _ _ _ => (pe_call Lr.G hr (by rfl) Lr.g Lr.kp Lr.b .nil pass0 (pa_cons (pv 7) (pa_cons pe_str pa_nil)))))))
        (Evl.pss_cut (ps_for PassesOwn.never rfl (pi_range1 (by rfl) B.rng (pa_cons (pe_call Pk.G hr (by rfl) Pk.g Pk.kp Pk.b .nil pass0 (pa_cons (pv 1) (pa_cons pe_int pa_nil))) pa_nil)) (pg_name (i := 4) scZ.nd rfl (.inl rfl))
          (pss_one (ps_set (i := 5) scZ.nd rfl (.inr rfl) (pe_call Bt.G hr (by rfl) Bt.g Bt.kp Bt.b .nil pass0 (pa_cons (pv 1) (pa_cons (pv 5) pa_nil))))))
        (pss_one (ps_expr (pe_bm PySem.F.plainAttrs_list PySem.F.slot_list_append PySem.F.type_list_append mt_append (pv 2) (pa_cons (pv 5) pa_nil)))))))
        (Evl.pss_cut (ps_for PassesOwn.never rfl (pi_list (pv 2)) (pg_name (i := 5) scZ.nd rfl (.inr rfl))
          (pss_one (ps_if (pt_not (pt_val (pe_call L.G hr (by rfl) L.g L.kp L.b .nil pass0 (pa_cons (Hw.pe_why FW gW er (by rfl) TB rfl hr (lamS_by (sc := defScope sLaw) (by decide +kernel)) rfl (fun _ _ _ _ _ => rfl) (fun A outer s H E f c' hrL => pe_call GB' hrL (by rfl) gB kB bB .nil (passes_call (takes_of rfl rfl rfl rfl) (fun _ _ _ _ h => h)) (pa_cons (pv 5) pa_nil))) (pa_cons (pe_call Rd.G hr (by rfl) Rd.g Rd.kp Rd.b .nil pass0 (pa_cons (pv 5) pa_nil)) pa_nil))))) (pss_one (ps_ret pe_bl)) pss_nil)))
        (pss_one (ps_ret pe_bl)))))))))), ?_⟩
  have tabs0 : Tabs [(Pt, "law.<locals>.<lambda>")] H := fun p hp => by
    cases List.mem_singleton.mp hp
    exact TabS.nil tb0
  refine ⟨_, rfl, a, ns, rfl, hS, hlen, fun H1 p l sm1 np dl1 => ?_⟩
  have tb1 := tabs0.ext sm1
  -- the texts so far
  refine ⟨fun σ' H' => ∃ u : Addr, σ' = [some (.ref a), some (.ref p), some (.ref u), none, none, none, none, none] ∧ Same H1 H' ∧ H' u = some (.lst (law1.map V.str)), ?_, ?_⟩
  · exact ⟨(by show 7 ≤ sizeLine; decide), fun u nu => ⟨u, rfl, same_upd nu, upd_same⟩⟩
  rintro σ' H2 ⟨u1, rfl, s2, hu1⟩
  refine ⟨fun σ' H' => ∃ u : Addr, σ' = [some (.ref a), some (.ref p), some (.ref u), none, none, none, none, none] ∧ Same H2 H' ∧ H' u = some (.lst ((law1 ++ law2).map V.str)), ?_, ?_⟩
  · refine ⟨_, rfl, (by show 3 ≤ sizeLine; decide), fun v nv => ?_⟩
    have sv := same_upd (o := .lst (law2.map V.str)) nv
    refine ⟨u1, v, _, _, rfl, rfl, sv _ _ hu1, upd_same, (by show 7 + 3 ≤ sizeLine; decide), fun u nu => ?_⟩
    exact ⟨u, rfl, sv.trans (same_upd nu), by rw [upd_same, List.map_append]; rfl⟩
  rintro σ' H3 ⟨u2, rfl, s3, hu2⟩
  refine ⟨fun σ' H' => ∃ u : Addr, σ' = [some (.ref a), some (.ref p), some (.ref u), none, none, none, none, none] ∧ Same H3 H' ∧ H' u = some (.lst ((law1 ++ law2 ++ law3).map V.str)), ?_, ?_⟩
  · refine ⟨_, rfl, (by show 3 ≤ sizeLine; decide), fun v nv => ?_⟩
    have sv := same_upd (o := .lst (law3.map V.str)) nv
    refine ⟨u2, v, _, _, rfl, rfl, sv _ _ hu2, upd_same, (by show 10 + 3 ≤ sizeLine; decide), fun u nu => ?_⟩
    exact ⟨u, rfl, sv.trans (same_upd nu), by rw [upd_same, List.map_append (l₂ := law3)]; rfl⟩
  rintro σ' H4 ⟨u3, rfl, s4, hu3⟩
  refine ⟨fun σ' H' => ∃ u : Addr, σ' = [some (.ref a), some (.ref p), some (.ref u), none, none, none, none, none] ∧ Same H4 H' ∧ H' u = some (.lst ((law1 ++ law2 ++ law3 ++ law4).map V.str)), ?_, ?_⟩
  · refine ⟨_, rfl, (by show 2 ≤ sizeLine; decide), fun T nT => ?_⟩
    have sT := same_upd (o := .tup [.int 12, .int 13]) nT
    have hT : (upd H4 T (.tup [.int 12, .int 13])) T = some (.tup [.int 12, .int 13]) := upd_same
    generalize upd H4 T (.tup [.int 12, .int 13]) = H5 at *
    refine ⟨T, rfl, ⟨_, SqT.of hT⟩, fun D nD => ?_⟩
    have sD := same_upd (o := .lst []) nD
    refine lc_tup (K := K) (a := T) (xs := [.int 12, .int 13]) (fun i H' => Same H5 H' ∧ H' D = some (.lst ((law4.take i).map V.str))) ⟨sD, upd_same⟩ (fun i H' _ ⟨sm, _⟩ => SqT.of (sm _ _ hT)) ?_ ?_
    · rintro i x H6 hx ⟨sm, hD⟩
      obtain ⟨kk, rfl, hk, k13⟩ : ∃ kk : Nat, x = .int (kk : Int) ∧ law4[i]? = some (Txt.join "; " (List.replicate kk "each 1 with a gives b")) ∧ kk ≤ 13 := by
        match i, hx with
        | 0, h => exact ⟨12, (Option.some.inj h).symm, rfl, by decide⟩
        | 1, h => exact ⟨13, (Option.some.inj h).symm, rfl, by decide⟩
      have il := (List.getElem?_eq_some_iff.mp hx).1
      refine ⟨rfl, ?_⟩
      refine ⟨⟨_, rfl⟩, (by show 1 ≤ sizeLine; decide), fun v nv => ?_⟩
      have sv := same_upd (o := .lst [.str "each 1 with a gives b"]) nv
      refine ⟨_, rfl, v, _, _, rfl, rfl, upd_same, by omega, by omega, ?_, fun z nz => ?_⟩
      · rw [Int.toNat_natCast]
        exact Nat.le_of_lt (small1000 (by show 1 * kk ≤ 1000; omega))
      have er : (List.replicate (kk : Int).toNat [V.str "each 1 with a gives b"]).flatten = (List.replicate kk ("each 1 with a gives b" : Str)).map V.str := by
        rw [Int.toNat_natCast, List.map_replicate, List.flatten_replicate_singleton]
      rw [er]
      have sz := same_upd (o := .lst ((List.replicate kk ("each 1 with a gives b" : Str)).map V.str)) nz
      refine ⟨"; ", z, _, rfl, rfl, .inl (SqL.of upd_same), ?_, ?_⟩
      · rw [List.map_replicate, List.sum_replicate_nat, List.length_replicate]
        rw [show ("each 1 with a gives b" : Str).length = 21 by decide +kernel, show ("; " : Str).length = 2 by decide +kernel]
        omega
      have s6 := sm.trans (sv.trans sz)
      refine ⟨_, (sv.trans sz) _ _ hD, ?_, s6.put nD, ?_⟩
      · rw [List.length_map, List.length_take]
        exact small1000 (by have := Nat.min_le_right i law4.length; have : law4.length = 2 := rfl; omega)
      · rw [upd_same, List.take_add_one, hk, List.map_append]
        rfl
    · rintro H6 ⟨sm, hD⟩
      refine ⟨u3, D, _, _, rfl, rfl, sm _ _ (sT _ _ hu3), hD, (by show 13 + 2 ≤ sizeLine; decide), fun u nu => ?_⟩
      exact ⟨u, rfl, (sT.trans sm).trans (same_upd nu), by rw [upd_same, List.map_append (l₂ := law4)]; rfl⟩
  rintro σ' H5 ⟨u4, rfl, s5, hu4⟩
  refine ⟨fun σ' H' => ∃ u : Addr, σ' = [some (.ref a), some (.ref p), some (.ref u), none, none, none, none, none] ∧ Same H5 H' ∧ H' u = some (.lst ((law1 ++ law2 ++ law3 ++ law4 ++ law5).map V.str)), ?_, ?_⟩
  · refine ⟨_, rfl, (by show 2 ≤ sizeLine; decide), fun v nv => ?_⟩
    have sv := same_upd (o := .lst (law5.map V.str)) nv
    refine ⟨u4, v, _, _, rfl, rfl, sv _ _ hu4, upd_same, (by show 15 + 2 ≤ sizeLine; decide), fun u nu => ?_⟩
    exact ⟨u, rfl, sv.trans (same_upd nu), by rw [upd_same, List.map_append (l₂ := law5)]; rfl⟩
  rintro σ' H6 ⟨u, rfl, s6, hu⟩
  have s16 := ((s2.trans s3).trans (s4.trans s5)).trans s6
  have dl6 := dl1.same s16
  have tb6 := tb1.ext s16
  -- texts that are drawn
  refine ⟨fun σ' H' => ∃ (v3 v4 v5 : Option V) (zs : List Str), σ' = [some (.ref a), some (.ref p), some (.ref u), v3, v4, v5, none, none] ∧ Tabs [(Pt, "law.<locals>.<lambda>")] H' ∧ H' u = some (.lst (zs.map V.str)) ∧ zs.length ≤ 30 ∧ ∀ z ∈ zs, TxG z, ?_, ?_⟩
  · refine ⟨9, rfl, by decide, by decide, for_range (lo := 0) (n := 9) (fun i σ H' => ∃ (v3 v4 v5 : Option V) (zs : List Str), σ = [some (.ref a), some (.ref p), some (.ref u), v3, v4, v5, none, none] ∧ Deal H' p l ∧ Tabs [(Pt, "law.<locals>.<lambda>")] H' ∧ H' u = some (.lst (zs.map V.str)) ∧ zs.length = 17 + i ∧ ∀ z ∈ zs, TxG z)
      ⟨none, none, none, law1 ++ law2 ++ law3 ++ law4 ++ law5, rfl, dl6, tb6, hu, rfl, fun z hz => laws_G hz⟩ ?_ (fun σ H' ⟨v3, v4, v5, zs, e, _, t, h, l, g⟩ => ⟨v3, v4, v5, zs, e, t, h, by omega, g⟩)⟩
    rintro i σ H7 hi ⟨v3, v4, v5, zs, rfl, dl7, tb7, hu7, lz, hz⟩
    refine ⟨fun σ' H' => ∃ (rs : List Rl), σ' = [some (.ref a), some (.ref p), some (.ref u), some (.int (0 + i)), v4, some (.str (rsT rs)), none, none] ∧ Rls rs ∧ Deal H' p l ∧ Tabs [(Pt, "law.<locals>.<lambda>")] H' ∧ H' u = some (.lst (zs.map V.str)), ?_, ?_⟩
    · refine ⟨⟨_, rfl⟩, _, rfl, p, l, rfl, dl7, fun H8 g vr rs k8 dl8 hg hR rls => ?_⟩
      have n12 := rls.n12
      have lv := hR.length
      have tb8 := tabs_kp k8 tb7
      have hu8 := k8.keep _ _ nd_strs hu7
      refine ⟨g, rfl, ⟨_, SqL.of hg⟩, fun D nD => ?_⟩
      refine lc_list (K := K) (a := g) (xs := vr) (fun i H' => Same H8 H' ∧ H' D = some (.lst ((((rs.map plL).map mkS).take i).map V.str))) ⟨same_upd nD, upd_same⟩ (fun i H' _ ⟨sm, _⟩ => SqL.of (sm _ _ hg)) ?_ ?_
      · rintro i x H9 hx ⟨sm, hD⟩
        obtain ⟨r, hp, ra⟩ := paired_get hR i x hx
        have il := (List.getElem?_eq_some_iff.mp hp).1
        refine ⟨rfl, ?_⟩
        refine ⟨_, rfl, x, r, " ", rfl, ra.kp (Kp.of sm), rls.ok r (List.mem_of_getElem? hp), by decide +kernel, fun H10 s10 => ?_⟩
        refine ⟨_, s10 _ _ hD, ?_, (sm.trans s10).put nD, ?_⟩
        · rw [List.length_map, List.length_take]
          exact small1000 (by omega)
        · have gi : ((rs.map plL).map mkS)[i]? = some (mkS (rlL [] (cL " ") (cL " ") r)) := by rw [List.getElem?_map, List.getElem?_map, hp, show cL " " = [32] from by decide +kernel]; rfl
          rw [upd_same, List.take_add_one, gi, List.map_append]
          rfl
      · rintro H9 ⟨sm, hD⟩
        rw [List.take_of_length_le (by rw [List.length_map, List.length_map]; omega)] at hD
        refine ⟨"; ", D, (rs.map plL).map mkS, rfl, rfl, .inl (SqL.of hD), ?_, ?_⟩
        · have := sum_le (B := 913) (ys := (rs.map plL).map mkS) fun y hy => by
            obtain ⟨l, hl, rfl⟩ := List.mem_map.mp hy
            obtain ⟨r, hr', rfl⟩ := List.mem_map.mp hl
            rw [mk_len]
            exact rlL_le (rls.ok r hr') (by decide) (by decide) (by decide)
          have l2 : ("; " : Str).length = 2 := by decide +kernel
          rw [List.length_map, List.length_map] at this ⊢
          rw [l2]
          omega
        · rw [join_mk, show cL "; " = [59, 32] from by decide +kernel]
          exact ⟨rs, rfl, rls, dl8.same sm, tb8.ext sm, sm _ _ hu8⟩
    rintro σ' H8 ⟨rs, rfl, rls, dl8, tb8, hu8⟩
    -- bends
    refine ⟨fun σ' H' => ∃ (v4 : Option V) (z : Str), σ' = [some (.ref a), some (.ref p), some (.ref u), some (.int (0 + i)), v4, some (.str z), none, none] ∧ TxG z ∧ Deal H' p l ∧ Tabs [(Pt, "law.<locals>.<lambda>")] H' ∧ H' u = some (.lst (zs.map V.str)), ?_, ?_⟩
    · refine ⟨_, rfl, p, l, 3, rfl, dl8, by decide, lg (b := 11) (by decide) (by decide) (by decide), fun H9 r k9 dl9 r0 r3 => ?_⟩
      obtain ⟨m, rfl⟩ := Int.eq_ofNat_of_zero_le r0
      obtain ⟨S0, l0, t0⟩ := txo_rules rls
      refine ⟨m, rfl, by omega, by omega, for_range (lo := 0) (n := m) (fun j σ H' => ∃ (v4 : Option V) (z : Str) (S : List Str), σ = [some (.ref a), some (.ref p), some (.ref u), some (.int (0 + i)), v4, some (.str z), none, none] ∧ S.length ≤ 12 + 5 * j ∧ TxO S (10980 + 9 * j) z ∧ Deal H' p l ∧ Tabs [(Pt, "law.<locals>.<lambda>")] H' ∧ H' u = some (.lst (zs.map V.str)))
        ⟨_, _, S0, rfl, l0, t0, dl9, tabs_kp k9 tb8, k9.keep _ _ nd_strs hu8⟩ ?_ (fun σ H' ⟨v4, z, S, e, lS, t, d, tb, h⟩ => ⟨v4, z, e, ⟨S, by omega, ⟨by have := t.len; omega, t.asc, t.rn⟩⟩, d, tb, h⟩)⟩
      rintro j σ H10 hj ⟨v4, z, S, rfl, lS, t, dl10, tb10, hu10⟩
      refine ⟨_, rfl, _, rfl, p, l, z, S, _, rfl, dl10, t, by omega, fun H11 z' k11 dl11 ⟨S', lS', t'⟩ => ?_⟩
      exact ⟨_, z', S', rfl, by omega, by rw [show 10980 + 9 * (j + 1) = 10980 + 9 * j + 9 by omega]; exact t', dl11, tabs_kp k11 tb10, k11.keep _ _ nd_strs hu10⟩
    rintro σ' H9 ⟨v4', z, rfl, tz, dl9, tb9, hu9⟩
    refine ⟨_, rfl, .inl ⟨rfl, _, Or.inl (Or.inl hu9)⟩, _, rfl, u, zs.map V.str, _, rfl, rfl, hu9, (by rw [List.length_map]; show _ < 16777216; omega), ?_⟩
    refine ⟨_, _, _, zs ++ [z], rfl, ?_, ?_, by rw [upd_same, List.map_append]; rfl, by rw [List.length_append, lz]; rfl, fun y hy => ?_⟩
    · exact deal_lput dl9 hu9 (by omega)
    · exact tabs_lput tb9 hu9
    · rcases List.mem_append.mp hy with hy | hy
      · exact hz y hy
      · rw [List.mem_singleton.mp hy]
        exact tz
  rintro σ' H7 ⟨v3, v4, v5, zs, rfl, tb7, hu7, lz, hz⟩
  -- each is asked
  refine ⟨fun σ' H' => True, ?_, fun σ' H' _ => q H'⟩
  refine ⟨_, rfl, u, rfl, ⟨_, SqL.of hu7⟩, ?_⟩
  refine for_list (K := K) (a := u) (xs := zs.map V.str) (fun i σ H' => ∃ v5, σ = [some (.ref a), some (.ref p), some (.ref u), v3, v4, v5, none, none] ∧ Tabs [(Pt, "law.<locals>.<lambda>")] H' ∧ H' u = some (.lst (zs.map V.str))) ⟨_, rfl, tb7, hu7⟩ (fun i σ H' _ ⟨_, _, _, h⟩ => SqL.of h) ?_ (fun σ H' _ => trivial)
  rintro i x σ H8 hx ⟨v5', rfl, tb8, hu8⟩
  obtain ⟨z, hzi, rfl⟩ : ∃ z : Str, zs[i]? = some z ∧ x = .str z := by
    rw [List.getElem?_map] at hx
    cases e : zs[i]? with
    | none => rw [e] at hx; cases hx
    | some z => rw [e] at hx; exact ⟨z, rfl, (Option.some.inj hx).symm⟩
  have tz := hz z (List.mem_of_getElem? hzi)
  have lz2 := tz.len
  refine ⟨tb8, fun H9 ex9 tb9 => ?_⟩
  have hu9 := ext_lst ex9 hu8
  have ru := ni_lst (xs := zs.map V.str)
  refine ⟨_, rfl, z, rfl, by omega, tz.nm, fun rs e nb H10 qa vr k10 nq hq hR => ?_, fun rs e b H10 d k10 hd => ?_, fun e er10 H10 d k10 hd => ?_⟩
  · have lv := hR.length
    refine ⟨(by show 2 ≤ sizeLine; decide), fun p1 np1 => ?_⟩
    have x1 := same_upd (o := .tup [.str "told", .ref qa]) np1
    have h1 : (upd H10 p1 (.tup [.str "told", .ref qa])) p1 = some (.tup [.str "told", .ref qa]) := upd_same
    generalize upd H10 p1 (.tup [.str "told", .ref qa]) = H11 at *
    refine ⟨_, rfl, z, rfl, by omega, tz.asc, tz.nm, fun H12 v s12 rd => ?_⟩
    obtain ⟨a, rfl, rd⟩ := rd
    rw [e] at rd
    obtain ⟨bg, _⟩ | ⟨_, l2, ds, ha, hl2, pd⟩ := rd
    · exact absurd bg nb
    have sx := x1.trans s12
    have l12 : ds.length ≤ 1000 := by
      rw [pd.length]
      have := rd_len e
      omega
    refine ⟨_, _, rfl, lk_tup (SqT.of (s12 _ _ h1)) (SqT.of ha) (.cons (.str _) (.cons (lk_list (SqL.of (sx _ _ hq)) (SqL.of hl2) (lk_rules (tz.nm rs e).small (paired_mono (fun _ _ => RuleAt.ki (Ki.of sx)) hR) pd) l12) .nil)) (by show 2 ≤ 1000; decide), fun H15 s15 => ⟨_, rfl, iF rfl ?_⟩⟩
    have kk := (k10.trans (Ki.of sx)).trans (Ki.of s15)
    exact ⟨_, rfl, tabs_ki kk tb9, kk.keep _ _ ru hu9⟩
  · refine Hw.why_6 eS1 eS2 eS3 eS4 eS5 eS6 xfS hd (.cons ⟨nSw, rfl⟩ .nil) (by show 1 ≤ 1000; decide) fun p1 np1 => ?_
    have x1 := same_upd (o := .tup [.str "BadSize"]) np1
    have h1 : (upd H10 p1 (.tup [.str "BadSize"])) p1 = some (.tup [.str "BadSize"]) := upd_same
    generalize upd H10 p1 (.tup [.str "BadSize"]) = H11 at *
    refine ⟨_, rfl, z, rfl, by omega, tz.asc, tz.nm, fun H12 v s12 rd => ?_⟩
    obtain ⟨a, rfl, rd⟩ := rd
    rw [e] at rd
    obtain ⟨_, ha⟩ | ⟨nb, _⟩ := rd
    rotate_left
    · exact absurd b nb
    have sx := x1.trans s12
    refine ⟨_, _, rfl, lk_tup (SqT.of (s12 _ _ h1)) (SqT.of ha) (.cons (.str _) .nil) (by show 1 ≤ 1000; decide), fun H15 s15 => ⟨_, rfl, iF rfl ?_⟩⟩
    have kk := (k10.trans (Ki.of sx)).trans (Ki.of s15)
    exact ⟨_, rfl, tabs_ki kk tb9, kk.keep _ _ ru hu9⟩
  · refine Hw.why_2 eT1 eT2 xfT hd (.cons ⟨nTw, rfl⟩ (.cons ⟨nTa, rfl⟩ .nil)) (by show 2 ≤ 1000; decide) fun p1 np1 => ?_
    have x1 := same_upd (o := .tup [.str "BadText", .int (e : Nat)]) np1
    have h1 : (upd H10 p1 (.tup [.str "BadText", .int (e : Nat)])) p1 = some (.tup [.str "BadText", .int (e : Nat)]) := upd_same
    generalize upd H10 p1 (.tup [.str "BadText", .int (e : Nat)]) = H11 at *
    refine ⟨_, rfl, z, rfl, by omega, tz.asc, tz.nm, fun H12 v s12 rd => ?_⟩
    obtain ⟨a, rfl, rd⟩ := rd
    rw [er10] at rd
    have sx := x1.trans s12
    refine ⟨_, _, rfl, lk_tup (SqT.of (s12 _ _ h1)) (SqT.of rd) (.cons (.str _) (.cons (.int _) .nil)) (by show 2 ≤ 1000; decide), fun H15 s15 => ⟨_, rfl, iF rfl ?_⟩⟩
    have kk := (k10.trans (Ki.of sx)).trans (Ki.of s15)
    exact ⟨_, rfl, tabs_ki kk tb9, kk.keep _ _ ru hu9⟩
end
end Hl

set_option Elab.async false
set_option linter.all false
set_option maxRecDepth 100000
set_option maxHeartbeats 4000000
namespace Hl
open PySem PySem.Spec PyProof.Rows L2 Tk
theorem strsB_ok : ∀ {us : List Value} {xs : List Str}, strsB us xs = true → Vals (xs.map V.str) us
  | [], [], _ => .nil
  | .str x k :: r, y :: q, h => by
    have h' : (decide (x = y) && strsB r q) = true := h
    rw [Bool.and_eq_true] at h'
    have e := of_decide_eq_true h'.1
    subst e
    exact .cons ⟨k, rfl⟩ (strsB_ok h'.2)
theorem kwB_ok {K : PySem.W.Frag} {h : Heap} {mg : Str → Option Value} (X : K.In h) (G : h.Ns mainGlobals mg) (hb : kwB K = true) : ∃ kw, Kw K mg kw := by
  unfold kwB at hb
  split at hb
  · rename_i a e1
    split at hb
    · rename_i o e2
      split at hb
      · rename_i its n e3
        rw [Bool.and_eq_true, Bool.and_eq_true] at hb
        exact ⟨a, PySem.W.mg_of X G e1, fun H => .inr ⟨o, its, n, e2, of_decide_eq_true hb.1, e3, of_decide_eq_true hb.2.1, strsB_ok hb.2.2⟩⟩
      · cases hb
    · cases hb
  · cases hb
end Hl

set_option Elab.async false
set_option linter.all false
set_option maxRecDepth 100000
set_option maxHeartbeats 0
namespace Hl
open PySem PySem.Spec PyProof.Rows L2 LamX He
theorem all_x {l : PySem.W.OpenLaw} {w : World} {K : PySem.W.Frag} {h : Heap} {mg : Str → Option Value} {fa : Addr} (X : K.In h) (G : h.Ns mainGlobals mg) (hfa' : mg "law" = some (.ref fa)) (c : SaysX hfa hfn [] [("law", none)] hex w h K) :
    LawAtS l w K CX0 15 63 "_law_script" mg fa h := by
  have cd := c.t.d
  have mr := c.more
  unfold hex at mr
  obtain ⟨m0, mr⟩ := He.ba mr
  unfold hex0 at m0
  obtain ⟨x1, m0⟩ := He.ba m0
  obtain ⟨x2, m0⟩ := He.ba m0
  obtain ⟨x3, m0⟩ := He.ba m0
  obtain ⟨x4, m0⟩ := He.ba m0
  obtain ⟨x5, m0⟩ := He.ba m0
  obtain ⟨x6, m0⟩ := He.ba m0
  obtain ⟨x7, m0⟩ := He.ba m0
  obtain ⟨x8, m0⟩ := He.ba m0
  obtain ⟨x9, m0⟩ := He.ba m0
  obtain ⟨x10, m0⟩ := He.ba m0
  obtain ⟨x11, m0⟩ := He.ba m0
  obtain ⟨x12, m0⟩ := He.ba m0
  obtain ⟨fd1, D1⟩ := cd.def_ 0 (d := hd0) rfl
  have F1 : Fun K "is_name" "is_name" sIsn (ga K "is_name") fd1 := Hw.fun_of D1
  have k1 := F1.kp
  have g1 := He.glo_ok X G (cd.fact 0 (f := .glo "is_name") rfl)
  have b1 := F1.binds (ps := ["text"]) fun _ _ _ _ _ _ us hl => match us, hl with | [_], _ => rfl
  obtain ⟨fd2, D2⟩ := cd.def_ 1 (d := hd1) rfl
  have F2 : Fun K "sign_group" "sign_group" sSg (ga K "sign_group") fd2 := Hw.fun_of D2
  have k2 := F2.kp
  have g2 := He.glo_ok X G (cd.fact 1 (f := .glo "sign_group") rfl)
  have b2 := F2.binds (ps := ["sign"]) fun _ _ _ _ _ _ us hl => match us, hl with | [_], _ => rfl
  obtain ⟨fd3, D3⟩ := cd.def_ 2 (d := hd2) rfl
  have F3 : Fun K "piece_end" "piece_end" sPe (ga K "piece_end") fd3 := Hw.fun_of D3
  have k3 := F3.kp
  have g3 := He.glo_ok X G (cd.fact 2 (f := .glo "piece_end") rfl)
  have b3 := F3.binds (ps := ["text", "at"]) fun _ _ _ _ _ _ us hl => match us, hl with | [_, _], _ => rfl
  obtain ⟨fd4, D4⟩ := cd.def_ 3 (d := hd3) rfl
  have F4 : Fun K "pieces_of" "pieces_of" sPc (ga K "pieces_of") fd4 := Hw.fun_of D4
  have k4 := F4.kp
  have g4 := He.glo_ok X G (cd.fact 3 (f := .glo "pieces_of") rfl)
  have b4 := F4.binds (ps := ["text"]) fun _ _ _ _ _ _ us hl => match us, hl with | [_], _ => rfl
  obtain ⟨fd5, D5⟩ := cd.def_ 4 (d := hd4) rfl
  have F5 : Fun K "read_pair" "read_pair" sRp (ga K "read_pair") fd5 := Hw.fun_of D5
  have k5 := F5.kp
  have g5 := He.glo_ok X G (cd.fact 4 (f := .glo "read_pair") rfl)
  have b5 := F5.binds (ps := ["reader", "last"]) fun _ _ _ _ _ _ us hl => match us, hl with | [_, _], _ => rfl
  obtain ⟨fd6, D6⟩ := cd.def_ 5 (d := hd5) rfl
  have F6 : Fun K "read_pairs" "read_pairs" sRps (ga K "read_pairs") fd6 := Hw.fun_of D6
  have k6 := F6.kp
  have g6 := He.glo_ok X G (cd.fact 5 (f := .glo "read_pairs") rfl)
  have b6 := F6.binds (ps := ["reader"]) fun _ _ _ _ _ _ us hl => match us, hl with | [_], _ => rfl
  obtain ⟨fd7, D7⟩ := cd.def_ 6 (d := hd6) rfl
  have F7 : Fun K "read_rule" "read_rule" sRr (ga K "read_rule") fd7 := Hw.fun_of D7
  have k7 := F7.kp
  have g7 := He.glo_ok X G (cd.fact 6 (f := .glo "read_rule") rfl)
  have b7 := F7.binds (ps := ["reader"]) fun _ _ _ _ _ _ us hl => match us, hl with | [_], _ => rfl
  obtain ⟨fd8, D8⟩ := cd.def_ 7 (d := hd7) rfl
  have F8 : Fun K "read_rules" "read_rules" sRrs (ga K "read_rules") fd8 := Hw.fun_of D8
  have k8 := F8.kp
  have g8 := He.glo_ok X G (cd.fact 7 (f := .glo "read_rules") rfl)
  have b8 := F8.binds (ps := ["text"]) fun _ _ _ _ _ _ us hl => match us, hl with | [_], _ => rfl
  obtain ⟨fd9, D9⟩ := cd.def_ 8 (d := hd8) rfl
  have F9 : Fun K "letters_of" "letters_of" sLo (ga K "letters_of") fd9 := Hw.fun_of D9
  have k9 := F9.kp
  have g9 := He.glo_ok X G (cd.fact 8 (f := .glo "letters_of") rfl)
  have b9 := F9.binds (ps := ["rules"]) fun _ _ _ _ _ _ us hl => match us, hl with | [_], _ => rfl
  obtain ⟨fd10, D10⟩ := cd.def_ 9 (d := hd9) rfl
  have F10 : Fun K "outlets_of" "outlets_of" sOo (ga K "outlets_of") fd10 := Hw.fun_of D10
  have k10 := F10.kp
  have g10 := He.glo_ok X G (cd.fact 9 (f := .glo "outlets_of") rfl)
  have b10 := F10.binds (ps := ["rules"]) fun _ _ _ _ _ _ us hl => match us, hl with | [_], _ => rfl
  obtain ⟨fd11, D11⟩ := cd.def_ 10 (d := hd10) rfl
  have F11 : Fun K "_law_deal" "_law_deal" sDeal (ga K "_law_deal") fd11 := Hw.fun_of D11
  have k11 := F11.kp
  have g11 := He.glo_ok X G (cd.fact 10 (f := .glo "_law_deal") rfl)
  have b11 := F11.binds (ps := ["_law_script"]) fun _ _ _ _ _ _ us hl => match us, hl with | [_], _ => rfl
  obtain ⟨fd12, D12⟩ := cd.def_ 11 (d := hd11) rfl
  have F12 : Fun K "_law_pick" "_law_pick" sPick (ga K "_law_pick") fd12 := Hw.fun_of D12
  have k12 := F12.kp
  have g12 := He.glo_ok X G (cd.fact 11 (f := .glo "_law_pick") rfl)
  have b12 := F12.binds (ps := ["_law_deal_here", "_law_many"]) fun _ _ _ _ _ _ us hl => match us, hl with | [_, _], _ => rfl
  obtain ⟨fd13, D13⟩ := cd.def_ 12 (d := hd12) rfl
  have F13 : Fun K "_law_of" "_law_of" sOf (ga K "_law_of") fd13 := Hw.fun_of D13
  have k13 := F13.kp
  have g13 := He.glo_ok X G (cd.fact 12 (f := .glo "_law_of") rfl)
  have b13 := F13.binds (ps := ["_law_deal_here", "_law_some"]) fun _ _ _ _ _ _ us hl => match us, hl with | [_, _], _ => rfl
  obtain ⟨fd14, D14⟩ := cd.def_ 13 (d := hd13) rfl
  have F14 : Fun K "_law_like" "_law_like" sLike (ga K "_law_like") fd14 := Hw.fun_of D14
  have k14 := F14.kp
  have g14 := He.glo_ok X G (cd.fact 13 (f := .glo "_law_like") rfl)
  have b14 := F14.binds (ps := ["_law_found", "_law_due"]) fun _ _ _ _ _ _ us hl => match us, hl with | [_, _], _ => rfl
  obtain ⟨fd15, D15⟩ := cd.def_ 14 (d := hd14) rfl
  have F15 : Fun K "_law_names" "_law_names" sNames (ga K "_law_names") fd15 := Hw.fun_of D15
  have k15 := F15.kp
  have g15 := He.glo_ok X G (cd.fact 14 (f := .glo "_law_names") rfl)
  have b15 := F15.binds (ps := ["_law_deal_here", "_law_many"]) fun _ _ _ _ _ _ us hl => match us, hl with | [_, _], _ => rfl
  obtain ⟨fd16, D16⟩ := cd.def_ 15 (d := hd15) rfl
  have F16 : Fun K "_law_why" "_law_why" Hw.sWhy (ga K "_law_why") fd16 := Hw.fun_of D16
  have k16 := F16.kp
  have g16 := He.glo_ok X G (cd.fact 15 (f := .glo "_law_why") rfl)
  have b16 := F16.binds (ps := ["_law_ask"]) fun _ _ _ _ _ _ us hl => match us, hl with | [_], _ => rfl
  obtain ⟨fd17, D17⟩ := cd.def_ 16 (d := hd16) rfl
  have F17 : Fun K "_law_full_rule" "_law_full_rule" sFr (ga K "_law_full_rule") fd17 := Hw.fun_of D17
  have k17 := F17.kp
  have g17 := He.glo_ok X G (cd.fact 16 (f := .glo "_law_full_rule") rfl)
  have b17 := F17.binds (ps := ["_law_deal_here", "_law_ins", "_law_outs"]) fun _ _ _ _ _ _ us hl => match us, hl with | [_, _, _], _ => rfl
  obtain ⟨fd18, D18⟩ := cd.def_ 17 (d := hd17) rfl
  have F18 : Fun K "_law_any_rules" "_law_any_rules" sAr (ga K "_law_any_rules") fd18 := Hw.fun_of D18
  have k18 := F18.kp
  have g18 := He.glo_ok X G (cd.fact 17 (f := .glo "_law_any_rules") rfl)
  have b18 := F18.binds (ps := ["_law_deal_here"]) fun _ _ _ _ _ _ us hl => match us, hl with | [_], _ => rfl
  obtain ⟨fd19, D19⟩ := cd.def_ 18 (d := hd18) rfl
  have F19 : Fun K "_law_pairs_text" "_law_pairs_text" sLp (ga K "_law_pairs_text") fd19 := Hw.fun_of D19
  have k19 := F19.kp
  have g19 := He.glo_ok X G (cd.fact 18 (f := .glo "_law_pairs_text") rfl)
  have b19 := F19.binds (ps := ["_law_pairs", "_law_gap"]) fun _ _ _ _ _ _ us hl => match us, hl with | [_, _], _ => rfl
  obtain ⟨fd20, D20⟩ := cd.def_ 19 (d := hd19) rfl
  have F20 : Fun K "_law_rule_text" "_law_rule_text" sLr (ga K "_law_rule_text") fd20 := Hw.fun_of D20
  have k20 := F20.kp
  have g20 := He.glo_ok X G (cd.fact 19 (f := .glo "_law_rule_text") rfl)
  have b20 := F20.binds (ps := ["_law_rule", "_law_gap"]) fun _ _ _ _ _ _ us hl => match us, hl with | [_, _], _ => rfl
  obtain ⟨fd21, D21⟩ := cd.def_ 20 (d := hd20) rfl
  have F21 : Fun K "_law_tokens" "_law_tokens" sTks (ga K "_law_tokens") fd21 := Hw.fun_of D21
  have k21 := F21.kp
  have g21 := He.glo_ok X G (cd.fact 20 (f := .glo "_law_tokens") rfl)
  have b21 := F21.binds (ps := ["_law_text"]) fun _ _ _ _ _ _ us hl => match us, hl with | [_], _ => rfl
  obtain ⟨fd22, D22⟩ := cd.def_ 21 (d := hd21) rfl
  have F22 : Fun K "_law_number_good" "_law_number_good" sNg (ga K "_law_number_good") fd22 := Hw.fun_of D22
  have k22 := F22.kp
  have g22 := He.glo_ok X G (cd.fact 21 (f := .glo "_law_number_good") rfl)
  have b22 := F22.binds (ps := ["_law_token", "_law_low", "_law_high"]) fun _ _ _ _ _ _ us hl => match us, hl with | [_, _, _], _ => rfl
  obtain ⟨fd23, D23⟩ := cd.def_ 22 (d := hd22) rfl
  have F23 : Fun K "_law_pairs_end" "_law_pairs_end" sPnd (ga K "_law_pairs_end") fd23 := Hw.fun_of D23
  have k23 := F23.kp
  have g23 := He.glo_ok X G (cd.fact 22 (f := .glo "_law_pairs_end") rfl)
  have b23 := F23.binds (ps := ["_law_tokens_here", "_law_at"]) fun _ _ _ _ _ _ us hl => match us, hl with | [_, _], _ => rfl
  obtain ⟨fd24, D24⟩ := cd.def_ 23 (d := hd23) rfl
  have F24 : Fun K "_law_rule_end" "_law_rule_end" sRnd (ga K "_law_rule_end") fd24 := Hw.fun_of D24
  have k24 := F24.kp
  have g24 := He.glo_ok X G (cd.fact 23 (f := .glo "_law_rule_end") rfl)
  have b24 := F24.binds (ps := ["_law_tokens_here", "_law_at"]) fun _ _ _ _ _ _ us hl => match us, hl with | [_, _], _ => rfl
  obtain ⟨fd25, D25⟩ := cd.def_ 24 (d := hd24) rfl
  have F25 : Fun K "_law_reading" "_law_reading" sRdg (ga K "_law_reading") fd25 := Hw.fun_of D25
  have k25 := F25.kp
  have g25 := He.glo_ok X G (cd.fact 24 (f := .glo "_law_reading") rfl)
  have b25 := F25.binds (ps := ["_law_text"]) fun _ _ _ _ _ _ us hl => match us, hl with | [_], _ => rfl
  obtain ⟨fd26, D26⟩ := cd.def_ 25 (d := hd25) rfl
  have F26 : Fun K "_law_bent_text" "_law_bent_text" sBt (ga K "_law_bent_text") fd26 := Hw.fun_of D26
  have k26 := F26.kp
  have g26 := He.glo_ok X G (cd.fact 25 (f := .glo "_law_bent_text") rfl)
  have b26 := F26.binds (ps := ["_law_deal_here", "_law_text"]) fun _ _ _ _ _ _ us hl => match us, hl with | [_, _], _ => rfl
  obtain ⟨fd27, D27⟩ := cd.def_ 26 (d := hd26) rfl
  have F27 : Fun K "law" "law" sLaw (ga K "law") fd27 := Hw.fun_of D27
  have k27 := F27.kp
  have g27 := He.glo_ok X G (cd.fact 26 (f := .glo "law") rfl)
  have z_isinstance := He.free_ok X G (cd.fact 27 (f := .free "isinstance") rfl)
  have z_list := He.free_ok X G (cd.fact 28 (f := .free "list") rfl)
  have z_tuple := He.free_ok X G (cd.fact 29 (f := .free "tuple") rfl)
  have z_len := He.free_ok X G (cd.fact 30 (f := .free "len") rfl)
  have z_all := He.free_ok X G (cd.fact 31 (f := .free "all") rfl)
  have z_range := He.free_ok X G (cd.fact 32 (f := .free "range") rfl)
  have z_bool := He.free_ok X G (cd.fact 33 (f := .free "bool") rfl)
  have z_int := He.free_ok X G (cd.fact 34 (f := .free "int") rfl)
  have z_str := He.free_ok X G (cd.fact 35 (f := .free "str") rfl)
  have z_abs := He.free_ok X G (cd.fact 36 (f := .free "abs") rfl)
  have z_min := He.free_ok X G (cd.fact 37 (f := .free "min") rfl)
  have z_max := He.free_ok X G (cd.fact 38 (f := .free "max") rfl)
  have z_sum := He.free_ok X G (cd.fact 39 (f := .free "sum") rfl)
  have z_zip := He.free_ok X G (cd.fact 40 (f := .free "zip") rfl)
  have z_sorted := He.free_ok X G (cd.fact 41 (f := .free "sorted") rfl)
  have v_LETTERS := He.int_ok X G (cd.fact 42 (f := .int "LETTERS" 3) rfl)
  have v_NAME_SIGNS := He.int_ok X G (cd.fact 43 (f := .int "NAME_SIGNS" 6) rfl)
  have v_RULES := He.int_ok X G (cd.fact 44 (f := .int "RULES" 12) rfl)
  have v_EVERY := He.int_ok X G (cd.fact 45 (f := .int "EVERY" 6) rfl)
  have v_AFTER := He.int_ok X G (cd.fact 46 (f := .int "AFTER" 12) rfl)
  have v_MANY := He.int_ok X G (cd.fact 47 (f := .int "MANY" 4) rfl)
  have v_TIMES := He.int_ok X G (cd.fact 48 (f := .int "TIMES" 6) rfl)
  have clR : Cls K (ga K "Reader") := He.cls_ok (cd.fact 49 (f := .cls "Reader") rfl)
  have gCR := He.glo_ok X G (cd.fact 50 (f := .glo "Reader") rfl)
  have naR_pieces : NoAttr K (ga K "Reader") "pieces" := He.noat_ok (cd.fact 51 (f := .noat "Reader" "pieces") rfl)
  have naR_taken : NoAttr K (ga K "Reader") "taken" := He.noat_ok (cd.fact 52 (f := .noat "Reader" "taken") rfl)
  have MKR : Mk K (ga K "Reader") (ma K (ga K "Reader") "__init__") := He.mkr_ok (cd.fact 53 (f := .mkr "Reader") rfl)
  obtain ⟨fdI, DI⟩ := cd.def_ 27 (d := hd27) rfl
  have MMI : Meth K (ga K "Reader") "__init__" (ma K (ga K "Reader") "__init__") := He.meth_ok (cd.fact 54 (f := .meth "Reader" "__init__") rfl)
  have aI := MMI.at_
  have iI := MMI.fn
  have kI := MMI.kp
  have FI : Fun K "__init__" "Reader.__init__" sRi (ma K (ga K "Reader") "__init__") fdI := Hw.fun_of DI
  have bI := FI.binds (ps := ["self", "text"]) fun _ _ _ _ _ _ us hl => match us, hl with | [_, _], _ => rfl
  obtain ⟨fdC, DC⟩ := cd.def_ 28 (d := hd28) rfl
  have MMC : Meth K (ga K "Reader") "coming" (ma K (ga K "Reader") "coming") := He.meth_ok (cd.fact 55 (f := .meth "Reader" "coming") rfl)
  have aC := MMC.at_
  have iC := MMC.fn
  have kC := MMC.kp
  have FC : Fun K "coming" "Reader.coming" sRc (ma K (ga K "Reader") "coming") fdC := Hw.fun_of DC
  have bC := FC.binds (ps := ["self"]) fun _ _ _ _ _ _ us hl => match us, hl with | [_], _ => rfl
  obtain ⟨fdFu, DFu⟩ := cd.def_ 29 (d := hd29) rfl
  have MMFu : Meth K (ga K "Reader") "refuse" (ma K (ga K "Reader") "refuse") := He.meth_ok (cd.fact 56 (f := .meth "Reader" "refuse") rfl)
  have aFu := MMFu.at_
  have iFu := MMFu.fn
  have kFu := MMFu.kp
  have FFu : Fun K "refuse" "Reader.refuse" sRf (ma K (ga K "Reader") "refuse") fdFu := Hw.fun_of DFu
  have bFu := FFu.binds (ps := ["self"]) fun _ _ _ _ _ _ us hl => match us, hl with | [_], _ => rfl
  obtain ⟨fdO, DO⟩ := cd.def_ 30 (d := hd30) rfl
  have MMO : Meth K (ga K "Reader") "one_of" (ma K (ga K "Reader") "one_of") := He.meth_ok (cd.fact 57 (f := .meth "Reader" "one_of") rfl)
  have aO := MMO.at_
  have iO := MMO.fn
  have kO := MMO.kp
  have FO : Fun K "one_of" "Reader.one_of" sRo (ma K (ga K "Reader") "one_of") fdO := Hw.fun_of DO
  have bO := FO.binds (ps := ["self", "allowed"]) fun _ _ _ _ _ _ us hl => match us, hl with | [_, _], _ => rfl
  obtain ⟨fdT, DT⟩ := cd.def_ 31 (d := hd31) rfl
  have MMT : Meth K (ga K "Reader") "takes" (ma K (ga K "Reader") "takes") := He.meth_ok (cd.fact 58 (f := .meth "Reader" "takes") rfl)
  have aT := MMT.at_
  have iT := MMT.fn
  have kT := MMT.kp
  have FT : Fun K "takes" "Reader.takes" sRt (ma K (ga K "Reader") "takes") fdT := Hw.fun_of DT
  have bT := FT.binds (ps := ["self", "piece"]) fun _ _ _ _ _ _ us hl => match us, hl with | [_, _], _ => rfl
  obtain ⟨fdN, DN⟩ := cd.def_ 32 (d := hd32) rfl
  have MMN : Meth K (ga K "Reader") "number" (ma K (ga K "Reader") "number") := He.meth_ok (cd.fact 59 (f := .meth "Reader" "number") rfl)
  have aN := MMN.at_
  have iN := MMN.fn
  have kN := MMN.kp
  have FN : Fun K "number" "Reader.number" sRn (ma K (ga K "Reader") "number") fdN := Hw.fun_of DN
  have bN := FN.binds (ps := ["self", "low", "high"]) fun _ _ _ _ _ _ us hl => match us, hl with | [_, _, _], _ => rfl
  obtain ⟨fdA, DA⟩ := cd.def_ 33 (d := hd33) rfl
  have MMA : Meth K (ga K "Reader") "name_above" (ma K (ga K "Reader") "name_above") := He.meth_ok (cd.fact 60 (f := .meth "Reader" "name_above") rfl)
  have aA := MMA.at_
  have iA := MMA.fn
  have kA := MMA.kp
  have FA : Fun K "name_above" "Reader.name_above" sRa (ma K (ga K "Reader") "name_above") fdA := Hw.fun_of DA
  have bA := FA.binds (ps := ["self", "last", "kept"]) fun _ _ _ _ _ _ us hl => match us, hl with | [_, _, _], _ => rfl
  have er : Hw.Errs mg ⟨Hw.cls1.map (ga K), Hw.cls2.map (ga K), Hw.cls3.map (ga K), ga K "Heeds", ga K "NoneWaits", ga K "HeedError", ga K "Lacking"⟩ := ⟨(.cons (He.glo_ok X G (cd.fact 61 (f := .glo "BadName") rfl)) (.cons (He.glo_ok X G (cd.fact 62 (f := .glo "Taken") rfl)) (.cons (He.glo_ok X G (cd.fact 63 (f := .glo "NoLetter") rfl)) (.cons (He.glo_ok X G (cd.fact 64 (f := .glo "NoOutlet") rfl)) (.cons (He.glo_ok X G (cd.fact 65 (f := .glo "NoMachine") rfl)) (.cons (He.glo_ok X G (cd.fact 66 (f := .glo "NoWeb") rfl)) (.cons (He.glo_ok X G (cd.fact 67 (f := .glo "NoRun") rfl)) .nil))))))), (.cons (He.glo_ok X G (cd.fact 68 (f := .glo "BadRow") rfl)) (.cons (He.glo_ok X G (cd.fact 69 (f := .glo "BadText") rfl)) (.cons (He.glo_ok X G (cd.fact 70 (f := .glo "BadDeed") rfl)) .nil))), (.cons (He.glo_ok X G (cd.fact 71 (f := .glo "Unreached") rfl)) (.cons (He.glo_ok X G (cd.fact 72 (f := .glo "Gone") rfl)) (.cons (He.glo_ok X G (cd.fact 73 (f := .glo "NoStand") rfl)) .nil))), He.glo_ok X G (cd.fact 74 (f := .glo "Heeds") rfl), He.glo_ok X G (cd.fact 75 (f := .glo "NoneWaits") rfl), He.glo_ok X G (cd.fact 76 (f := .glo "HeedError") rfl), He.glo_ok X G (cd.fact 77 (f := .glo "Lacking") rfl)⟩
  have z_ValueError := He.free_ok X G (cd.fact 78 (f := .free "ValueError") rfl)
  have UEV := Hw.upB_ok x1
  have gUV := He.glo_ok X G (cd.fact 76 (f := .glo "HeedError") rfl)
  obtain ⟨fdUV, FUV⟩ := cd.def_ 34 (d := hd34) rfl
  obtain ⟨ds0V, rv0V, bd0V⟩ := FunD.binds1 (ps := ["self", "word", "about"]) FUV 2 1 (by intro z; cases z) rfl (fun T kV doc pm an cdv ct us its hu hi => match us, its, hu, hi with | [_, _], [_, _], _, _ => ⟨_, rfl, rfl⟩)
  obtain ⟨ds1V, rv1V, bd1V⟩ := FunD.binds1 (ps := ["self", "word", "about"]) FUV 3 2 (by intro z; cases z) rfl (fun T kV doc pm an cdv ct us its hu hi => match us, its, hu, hi with | [_, _, _], [_, _], _, _ => ⟨_, rfl, rfl⟩)
  have OE_BadText := Hw.oneB_ok x2
  have gE_BadText := He.glo_ok X G (cd.fact 69 (f := .glo "BadText") rfl)
  obtain ⟨fdE_BadText, DE_BadText⟩ := cd.def_ 35 (d := hd35) rfl
  have FE_BadText : Fun K "__init__" "BadText.__init__" Hw.sEBadText (ma K (ga K "BadText") "__init__") fdE_BadText := Hw.fun_of DE_BadText
  have bE_BadText := FE_BadText.binds (ps := ["self", "at"]) fun _ _ _ _ _ _ us hl => match us, hl with | [_, _], _ => rfl
  have XF_BadText := OE_BadText.xf
  have n_word_BadText := OE_BadText.nf "word" (by simp)
  have n_at_BadText := OE_BadText.nf "at" (by simp)
  have w1_BadText := Hw.exmB_ok x3
  have w2_BadText := Hw.exmB_ok x4
  have OE_BadSize := Hw.oneB_ok x5
  have gE_BadSize := He.glo_ok X G (cd.fact 79 (f := .glo "BadSize") rfl)
  obtain ⟨fdE_BadSize, DE_BadSize⟩ := cd.def_ 36 (d := hd36) rfl
  have FE_BadSize : Fun K "__init__" "BadSize.__init__" Hw.sEBadSize (ma K (ga K "BadSize") "__init__") fdE_BadSize := Hw.fun_of DE_BadSize
  have bE_BadSize := FE_BadSize.binds (ps := ["self"]) fun _ _ _ _ _ _ us hl => match us, hl with | [_], _ => rfl
  have XF_BadSize := OE_BadSize.xf
  have n_word_BadSize := OE_BadSize.nf "word" (by simp)
  have w1_BadSize := Hw.exmB_ok x6
  have w2_BadSize := Hw.exmB_ok x7
  have w3_BadSize := Hw.exmB_ok x8
  have w4_BadSize := Hw.exmB_ok x9
  have w5_BadSize := Hw.exmB_ok x10
  have w6_BadSize := Hw.exmB_ok x11
  have B : Bi mg := ⟨z_isinstance, z_list, z_tuple, z_len, z_all, z_range, z_bool, z_int, z_str, z_abs⟩
  have J : Bj mg := ⟨z_min, z_max, z_sum, z_zip, z_sorted⟩
  have CN : Cn mg := ⟨v_LETTERS, v_NAME_SIGNS, v_RULES, v_EVERY, v_AFTER, v_MANY, v_TIMES⟩
  have M : Rc K (ga K "Reader") := ⟨clR, naR_pieces, naR_taken⟩
  obtain ⟨kw, KW⟩ := kwB_ok X G x12
  have e := hfa'.symm.trans g27
  cases e
  obtain ⟨cL, PL, ocL, odL, kVL, docL, pmL, anL, ctL, oslL, lkL, hcL, hdL, emL, noL⟩ := Hw.law_tab X c F27 (List.mem_singleton.mpr rfl)
  refine ⟨PySem.W.fnOf "law" "law" (defArgs sLaw) (defBody sLaw) (defScope sLaw) .none kVL docL pmL anL (.ref cL) ctL, [(cL, PL)], spLaw K PL, fun p hp => by cases List.mem_singleton.mp hp; exact emL, fun p hp => by cases List.mem_singleton.mp hp; exact noL, fun p hp => by cases List.mem_singleton.mp hp; exact hdL, fun s v => .of_eq rfl,
    fun H a ns hl _ hT hS => ⟨a, ns, rfl, hS, hl, hT _ (List.mem_singleton.mpr rfl), fun _ => rfl⟩, fun base _ _ hTB => ?_⟩
  have TB := hTB (cL, PL) (List.mem_singleton.mpr rfl)
  exact ok_law (k := 12) (n := 5) lkL hcL TB B ⟨ok_deal (k := 13) F11 B.lst, k11, b11, g11⟩
    ⟨ok_ar (k := 13) F18 (ok_pick (k := 12) F12 B.len) k12 b12 g12 (ok_of (k := 11) F13 F12 b12 g12 B) k13 b13 g13 (ok_names (k := 12) F15 (ok_pick (k := 11) F12 B.len) k12 b12 g12 (ok_of (k := 10) F13 F12 b12 g12 B) k13 b13 g13 B) k15 b15 g15 (ok_fr (k := 12) F17 (ok_pick (k := 11) F12 B.len) k12 b12 g12 (ok_of (k := 10) F13 F12 b12 g12 B) k13 b13 g13 B J) k17 b17 g17 B, k18, b18, g18⟩
    ⟨ok_like F14 b14 g14 B 13, k14, b14, g14⟩
    ⟨ok_pick (k := 13) F12 B.len, k12, b12, g12⟩
    ⟨ok_lr (k := 13) F20 B ⟨ok_lp (k := 12) F19 B, k19, b19, g19⟩, k20, b20, g20⟩
    ⟨ok_bt (k := 13) F26 B ⟨ok_pick (k := 12) F12 B.len, k12, b12, g12⟩ ⟨ok_of (k := 11) F13 F12 b12 g12 B, k13, b13, g13⟩, k26, b26, g26⟩
    ⟨ok_rdg (k := 13) F25 B ⟨ok_tks (k := 12) F21 B, k21, b21, g21⟩ ⟨ok_rnd (k := 12) F24 B ⟨ok_ng (k := 11) F22 B, k22, b22, g22⟩ ⟨ok_pnd (k := 11) F23 B ⟨ok_ng (k := 10) F22 B, k22, b22, g22⟩, k23, b23, g23⟩, k24, b24, g24⟩, k25, b25, g25⟩
    F16 g16 er (ok_rrsG (k := 10) F8 M MKR gCR B CN ⟨ok_ri (k := 9) FI M ⟨ok_pc (k := 8) F4 B ⟨ok_pe (k := 7) F3 B ⟨ok_sg (k := 6) F2, k2, b2, g2⟩, k3, b3, g3⟩, k4, b4, g4⟩, MMI, bI⟩ ⟨ok_rr (k := 9) F7 M CN ⟨ok_ro (k := 8) FO M ⟨ok_cm (k := 7) FC M, MMC, bC⟩ ⟨ok_rf (k := 6) FFu M ⟨OE_BadText.own, gE_BadText, OE_BadText.iC, OE_BadText.tI, Hw.ok_eBadText (k := 4) FE_BadText (Hw.ok_upV (k := 4) FUV z_ValueError UEV.b) FUV.kp bd1V rv1V UEV.r UEV.c gUV, bE_BadText, OE_BadText.nf⟩, MMFu, bFu⟩, MMO, bO⟩ ⟨ok_rn (k := 8) FN M B ⟨ok_ro (k := 7) FO M ⟨ok_cm (k := 6) FC M, MMC, bC⟩ ⟨ok_rf (k := 5) FFu M ⟨OE_BadText.own, gE_BadText, OE_BadText.iC, OE_BadText.tI, Hw.ok_eBadText (k := 3) FE_BadText (Hw.ok_upV (k := 3) FUV z_ValueError UEV.b) FUV.kp bd1V rv1V UEV.r UEV.c gUV, bE_BadText, OE_BadText.nf⟩, MMFu, bFu⟩, MMO, bO⟩, MMN, bN⟩ ⟨ok_rt (k := 8) FT M ⟨ok_cm (k := 7) FC M, MMC, bC⟩, MMT, bT⟩ ⟨ok_rps (k := 8) F6 M B ⟨ok_rp (k := 7) F5 M CN KW ⟨ok_ra (k := 6) FA M ⟨ok_cm (k := 5) FC M, MMC, bC⟩ ⟨ok_rf (k := 4) FFu M ⟨OE_BadText.own, gE_BadText, OE_BadText.iC, OE_BadText.tI, Hw.ok_eBadText (k := 2) FE_BadText (Hw.ok_upV (k := 2) FUV z_ValueError UEV.b) FUV.kp bd1V rv1V UEV.r UEV.c gUV, bE_BadText, OE_BadText.nf⟩, MMFu, bFu⟩ ⟨ok_isA (k := 5) F1 B CN, k1, b1, g1⟩, MMA, bA⟩ ⟨ok_cm (k := 6) FC M, MMC, bC⟩ ⟨ok_rn (k := 6) FN M B ⟨ok_ro (k := 5) FO M ⟨ok_cm (k := 4) FC M, MMC, bC⟩ ⟨ok_rf (k := 3) FFu M ⟨OE_BadText.own, gE_BadText, OE_BadText.iC, OE_BadText.tI, Hw.ok_eBadText (k := 1) FE_BadText (Hw.ok_upV (k := 1) FUV z_ValueError UEV.b) FUV.kp bd1V rv1V UEV.r UEV.c gUV, bE_BadText, OE_BadText.nf⟩, MMFu, bFu⟩, MMO, bO⟩, MMN, bN⟩, k5, b5, g5⟩ ⟨ok_rt (k := 7) FT M ⟨ok_cm (k := 6) FC M, MMC, bC⟩, MMT, bT⟩, k6, b6, g6⟩, k7, b7, g7⟩ ⟨ok_cm (k := 9) FC M, MMC, bC⟩ ⟨ok_rf (k := 8) FFu M ⟨OE_BadText.own, gE_BadText, OE_BadText.iC, OE_BadText.tI, Hw.ok_eBadText (k := 6) FE_BadText (Hw.ok_upV (k := 6) FUV z_ValueError UEV.b) FUV.kp bd1V rv1V UEV.r UEV.c gUV, bE_BadText, OE_BadText.nf⟩, MMFu, bFu⟩ ⟨ok_ro (k := 9) FO M ⟨ok_cm (k := 8) FC M, MMC, bC⟩ ⟨ok_rf (k := 7) FFu M ⟨OE_BadText.own, gE_BadText, OE_BadText.iC, OE_BadText.tI, Hw.ok_eBadText (k := 5) FE_BadText (Hw.ok_upV (k := 5) FUV z_ValueError UEV.b) FUV.kp bd1V rv1V UEV.r UEV.c gUV, bE_BadText, OE_BadText.nf⟩, MMFu, bFu⟩, MMO, bO⟩ ⟨ok_loG (k := 9) F9 J, k9, b9, g9⟩ ⟨ok_ooG (k := 9) F10 J, k10, b10, g10⟩ ⟨OE_BadSize.own, gE_BadSize, OE_BadSize.iC, OE_BadSize.tI, Hw.ok_eBadSize (k := 8) FE_BadSize (Hw.ok_upV (k := 8) FUV z_ValueError UEV.b) FUV.kp bd0V rv0V UEV.r UEV.c gUV, bE_BadSize, OE_BadSize.nf⟩) k8 b8 g8 XF_BadText w1_BadText w2_BadText n_word_BadText n_at_BadText XF_BadSize w1_BadSize w2_BadSize w3_BadSize w4_BadSize w5_BadSize w6_BadSize n_word_BadSize
end Hl

set_option Elab.async false
set_option linter.all false
set_option maxRecDepth 100000
open PySem PySem.W PySem.Calls PyProof.Rows
set_option maxHeartbeats 0 in
theorem PySem.Challenge.cw_heedless_k17_texts_of_no_rules_holds : PySem.Challenge.rw_heedless_k17_texts_of_no_rules.Holds := by
  w_on; o_law
  refine HandSHeadRun.head_any (r := OpenLaw.row PySem.Challenge.rw_heedless_k17_texts_of_no_rules) (q := view (OpenLaw.row PySem.Challenge.rw_heedless_k17_texts_of_no_rules).prog [58]) (H := Hl.hk) (ob := Hl.hob) (M := 20000) (loose := Hl.hloose) (d := HandSHeadRun.topDef (OpenLaw.row PySem.Challenge.rw_heedless_k17_texts_of_no_rules).prog 58) (kwd := []) Hl.hob_eq
    (by kernel_rfl) (fun s => by kernel_rfl) Hl.hrun (by kernel_rfl) (by kernel_rfl) (by kernel_rfl) (by rfl) (by first | assumption | decide +kernel) (by decide +kernel) ⟨rfl, rfl, rfl, rfl, rfl, by decide +kernel⟩ ?hw ?hc
  case hw => w_witness2
  case hc =>
    refine LamX.walk_ofTsE (l := PySem.Challenge.rw_heedless_k17_texts_of_no_rules) (n := 63) (k := 15) (x := "_law_script") (CX := fun _ => L2.CX0) rfl (by decide) (by kernel_rfl) ⟨rfl, by decide, by decide⟩ ?F (fun _ _ _ _ _ z => z)
    intro w mg fa h Y G hmg0
    obtain ⟨K, KX, c⟩ := Y
    have hmg : mg ("law" : PySem.Str) = some (.ref fa) := by
      have e : (HandSHeadRun.topDef (OpenLaw.row PySem.Challenge.rw_heedless_k17_texts_of_no_rules).prog 58).name = ("law" : PySem.Str) := by kernel_rfl
      rw [← e]
      exact hmg0
    exact ⟨K, KX, Hl.all_x KX G hmg c⟩

