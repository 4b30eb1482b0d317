import PyProof.Rows.All
import Wide.All
import OpenK.AllK
import Wide.FinOn
import HandS.ForMost
import HandS.ForExc
import HandS.ExcInit
import HandS.ExcField
import HandS.TryMany
import HandS.IsInst
import HandS.Gcd
import HandS.Wide
import HandS.TupMul
import HandS.TupAny
import HandS.TupLe
import HandS.Deep
import HandS.Flow
import HandS.Defaults
import HandS.Evl
import HandS.More
import HandS.WordsDict
import KE.KMathGC
import KE.KTupSum
import HandS.Walk
import KE.GoesMore
import HandS.Style
import HandS.Conv
import PySem.Challenge.RW_upforgood_k05_rounds_refused
set_option Elab.async false
set_option linter.all false
set_option maxRecDepth 100000
set_option maxHeartbeats 4000000
namespace L2.U
open PySem PySem.Spec PyProof.Rows Evl

/-! ## several except clauses, each with a name or without one -/
structure Clause where
  cls : Value
  slot : Option Nat
  rd : Addr → Value → Option Addr → TS
def afterC : Option Nat → Ends → Ends
  | none, D => D
  | some i, D => ⟨fun s h => D.nx (s.set i none) h, D.rt, fun s h => D.bk (s.set i none) h, fun s h => D.ct (s.set i none) h⟩
def holdC : Option Nat → Addr → St → St
  | none, _, s => s
  | some i, a, s => s.set i (some (.ref a))
def wishC (K : PySem.W.Frag) (Wo : WX) (D : Ends) : List Clause → WX
  | [] => Wo
  | c :: r => fun cls d s h => ∃ b, PySem.W.exmOne K cls c.cls = some b ∧
      (b = true → ∀ a, h a = none → c.rd a cls d (afterC c.slot D) (holdC c.slot a s) h) ∧ (b = false → wishC K Wo D r cls d s h)
abbrev SuiteOk (X : Cx) (body : List Stmt) (rd : Addr → Value → Option Addr → TS) : Prop :=
  ∀ (a : Addr) (o : Obj) (cls : Value) (d : Option Addr) (pn : List (Addr × Obj)), Zc cls d o → (∃ vs, o.data = .fields vs) → PSs (X.suite a ((a, o) :: pn)) body (rd a cls d)
inductive ClauseOk (X : Cx) : ExceptHandler → Clause → Prop
  | bare {x : Str} {c : Value} {rd} {b0 : Stmt} {su : List Stmt} {np p : Pos} (hc : Names X x c) (hs : SuiteOk X (b0 :: su) rd) :
      ClauseOk X (.ExceptHandler (some (.Name x np)) none (b0 :: su) p) ⟨c, none, rd⟩
  | named {x n : Str} {i : Nat} {c : Value} {rd} {b0 : Stmt} {su : List Stmt} {np p : Pos} (hN : X.N.Nodup) (hi : X.N[i]? = some n)
      (hl : X.env.kindOf n = some .local) (hc : Names X x c) (hs : SuiteOk X (b0 :: su) rd) :
      ClauseOk X (.ExceptHandler (some (.Name x np)) (some n) (b0 :: su) p) ⟨c, some i, rd⟩
inductive ClausesOk (X : Cx) : List ExceptHandler → List Clause → Prop
  | nil : ClausesOk X [] []
  | cons {h c hs cs} (a : ClauseOk X h c) (r : ClausesOk X hs cs) : ClausesOk X (h :: hs) (c :: cs)
section
variable {X : Cx} {body : List Stmt} {h0 : ExceptHandler} {hds : List ExceptHandler} {cs : List Clause} {pos : Pos} {tb : WX → TS} {Wo : WX}
theorem ps_tryC (hs : X.stack = X.env :: X.outer) (hf : X.env.frame = some X.env.locals) (tk : Takes X Wo)
    (hb : ∀ (W : WX) (pn : List (Addr × Obj)) (xe : Value → Shared → Prop), Takes (X.tr pn xe) W → PassesOwn (model X.prog X.w) X.A X.env xe → PSs (X.tr pn xe) body (tb W))
    (hh : ClausesOk X (h0 :: hds) cs) : PS X (.Try body (h0 :: hds) [] [] pos) (fun D s h => tb (wishC X.K Wo D cs) D s h) := by
  constructor
  intro pins s σ H D I h
  have ok := I.ok
  have frames : X.A.frames = some (X.env :: X.outer) := by rw [ok.frames, hs]
  refine wpAny_Try_except ?_
  let caught : Value → Shared → Prop := fun e s1 =>
    wpAny (model X.prog X.w) X.A (noteFrame e X.env) (fun _ s2 => wpAny (model X.prog X.w) X.A (setFlight e none)
      (fun _ s3 => wpAny (model X.prog X.w) X.A (handleBy e X.env (h0 :: hds)) (SP X pins D) X.xe s3) X.xe s2) X.xe s1
  have takesB : Takes (X.tr (X.pn ++ pins) caught) (wishC X.K Wo D cs) := by
    rintro u s' ⟨a, B, sI, pins', σ', H', cls, d, rfl, J0, nb, up, sky, na, os, ag, w⟩
    have J : Inv X pins σ' H' sI := J0.ofTry ok
    have sky1 : Sky B (X.env :: X.outer) a (Zc cls d) X.env.locals s'.heap := hs ▸ sky
    show wpAny _ X.A (noteFrame (.ref a) X.env) _ _ _
    refine Sky.land Zc.steady frames hf sky1 fun h3 fl up3 => ?_
    have J3 : Inv X pins σ' H' { s' with heap := h3 } := J.landed nb fl.1 (up.trans up3) os ag
    obtain ⟨o3, v3, g3, z3, d3⟩ := fl.there
    have out : a ∉ frs (X.env :: X.outer) := by
      intro hm
      obtain ⟨_, o', e', no⟩ := fl.2.2.1.mem hm
      rw [g3] at e'
      cases e'
      exact no _ d3
    have nL : a ≠ X.env.locals := by
      intro z
      exact out (List.mem_filterMap.mpr ⟨X.env, List.mem_cons_self, z ▸ hf⟩)
    have nF : a ∉ X.fs := by
      intro hm
      obtain ⟨e, he, q⟩ := List.mem_filterMap.mp hm
      exact out (List.mem_filterMap.mpr ⟨e, List.mem_cons_of_mem _ he, q⟩)
    have S3 := J3.suite g3 d3 na nL nF
    have ty : PySem.W.Looks (model X.prog X.w) h3 (typeOf (.ref a)) cls := fun A Q E t k q => wpAny_typeOf_ref (k _ _ g3) (by rw [z3.1]; exact q)
    have asked : ∀ {x : Str} {c : Value} {np : Pos} {Q E : Value → Shared → Prop}, Names X x c → Q c { s' with heap := h3 } →
        wpAny (model X.prog X.w) (X.A.mark (some (.ref a))) (eval (.Name x np) X.env) Q E { s' with heap := h3 } := by
      rintro x c np Q E ⟨hg, hd, hm | ⟨hm, hv, hn⟩⟩ q
      · exact ld_glob (X := X.suite a ((a, o3) :: (X.pn ++ pins))) S3 hg hm q hd
      · exact ld_blt (X := X.suite a ((a, o3) :: (X.pn ++ pins))) S3 hg hm hv q hn hd
    have run : ∀ {l : List ExceptHandler} {k : List Clause}, ClausesOk X l k → wishC X.K Wo D k cls d σ' H' →
        wpAny (model X.prog X.w) X.A (handleBy (.ref a) X.env l) (SP X pins D) X.xe { s' with heap := h3 } := by
      intro l k hk
      induction hk with
      | nil =>
        intro w
        refine wpAny_handleBy_nil ?_
        obtain ⟨_, _, _, oe, vs, T, oT, ts, he, _, hd, h1, _⟩ := id fl
        unfold PySem.passOn
        refine wpAny_bind (wpAny_field he hd h1 ?_)
        rw [if_neg (by simp : ¬ ((Value.ref T == Value.none) = true))]
        have up : wpAny (model X.prog X.w) X.A (setFlight (.ref a) X.env.frame)
            (fun _ t => wpAny (model X.prog X.w) X.A (throw (.ref a) : Sem Flow) (SP X pins D) X.xe t) X.xe { s' with heap := h3 } := by
          rw [hf]
          refine HandSPX.setFlight_upZ fl fun h4 hh4 up4 => wpAny_throw (tk _ _ ?_)
          refine ⟨a, B, sI, pins, σ', H', cls, d, rfl, J, nb, (up.trans up3).trans up4, .inr (.inr ?_), na, os, ag, w⟩
          rw [hs]
          exact hh4
        first
          | exact wpAny_bind (wpAny_pure (wpAny_bind up))
          | exact wpAny_bind up
      | @cons h1 c hs1 cs1 hc1 _ ih =>
        rintro ⟨b, mb, yes, no⟩
        have LM := PySem.W.exm_one (M := model X.prog X.w) J3.kIn ty mb
        cases hc1 with
        | @bare x c rd b0 su np p hc hsu =>
          refine wpAny_handleBy_cons (codeAny_handlers_test ?_) (by intro q; cases q)
          refine asked hc (LM.here ?_)
          cases b with
          | false => exact ih (no rfl)
          | true =>
            refine codeAny_handlers_suite (HandSPX.lands_againZ fl fun h4 fl4 up4 => ?_)
            have J4 : Inv X pins σ' H' { s' with heap := h4 } := J.landed nb fl4.1 ((up.trans up3).trans up4) os ag
            obtain ⟨o4, v4, g4, z4, d4⟩ := fl4.there
            refine wpAny_mono ((hsu a o4 cls d (X.pn ++ pins) z4 ⟨_, d4⟩).run [] _ _ H' _ (J4.suite g4 d4 na nL nF) (yes rfl a na)) ?_ (fun _ _ z => False.elim z)
            intro f s6 sp
            cases f with
            | ret u => obtain ⟨v6, σ6, H6, S6, r6, q6⟩ := sp; exact ⟨_, _, _, S6.unsuite ok, r6, q6⟩
            | next => obtain ⟨σ6, H6, S6, q6⟩ := sp; exact ⟨_, _, S6.unsuite ok, q6⟩
            | brk => obtain ⟨σ6, H6, S6, q6⟩ := sp; exact ⟨_, _, S6.unsuite ok, q6⟩
            | cont => obtain ⟨σ6, H6, S6, q6⟩ := sp; exact ⟨_, _, S6.unsuite ok, q6⟩
        | @named x n i c rd b0 su np p hN hi hl hc hsu =>
          refine wpAny_handleBy_cons (codeAny_handlers_test ?_) (by intro q; cases q)
          refine asked hc (LM.here ?_)
          cases b with
          | false => exact ih (no rfl)
          | true =>
            refine codeAny_handlers_suite_as (HandSPX.lands_againZ fl fun h4 fl4 up4 => ?_)
            have J4 : Inv X pins σ' H' { s' with heap := h4 } := J.landed nb fl4.1 ((up.trans up3).trans up4) os ag
            obtain ⟨o4, v4, g4, z4, d4⟩ := fl4.there
            refine store_ok (X := X.suite a ((a, o4) :: (X.pn ++ pins))) (v := .ref a) (J4.suite g4 d4 na nL nF) hN hi (.inl hl) rfl (fun s5 S5 => ?_) (.inr hl)
            refine wpAny_mono ((hsu a o4 cls d (X.pn ++ pins) z4 ⟨_, d4⟩).run [] s5 _ H' _ S5 (yes rfl a na)) ?_ (fun _ _ z => False.elim z)
            intro f s6 sp
            have gone : ∀ {σ6 : St} {H6 : Hp} {Q : Shared → Prop}, Inv (X.suite a ((a, o4) :: (X.pn ++ pins))) [] σ6 H6 s6 → (∀ t, Inv X pins (σ6.set i none) H6 t → Q t) →
                wpAny (model X.prog X.w) X.A (do bindName X.env n .none; unbindBehindTheSuite X.env n p) (fun _ t => Q t) X.xe s6 := fun S6 hq => gone_ok (S6.unsuite ok) hN hi hl hq
            cases f with
            | ret u => obtain ⟨v6, σ6, H6, S6, r6, q6⟩ := sp; exact gone S6 fun t J7 => ⟨_, _, _, J7, r6, q6⟩
            | next => obtain ⟨σ6, H6, S6, q6⟩ := sp; exact gone S6 fun t J7 => ⟨_, _, J7, q6⟩
            | brk => obtain ⟨σ6, H6, S6, q6⟩ := sp; exact gone S6 fun t J7 => ⟨_, _, J7, q6⟩
            | cont => obtain ⟨σ6, H6, S6, q6⟩ := sp; exact gone S6 fun t J7 => ⟨_, _, J7, q6⟩
    exact run hh w
  refine wpAny_mono ((hb (wishC X.K Wo D cs) (X.pn ++ pins) caught takesB PassesOwn.looking).run [] s σ H D (I.toTry _) h) ?_ (fun e s1 he => he)
  intro f s1 sp
  cases f with
  | ret u => obtain ⟨v, σ', H', J', r, q⟩ := sp; exact ⟨v, σ', H', J'.ofTry ok, r, q⟩
  | next => obtain ⟨σ', H', J', q⟩ := sp; exact wpAny_execs_nil ⟨σ', H', J'.ofTry ok, q⟩
  | brk => obtain ⟨σ', H', J', q⟩ := sp; exact ⟨σ', H', J'.ofTry ok, q⟩
  | cont => obtain ⟨σ', H', J', q⟩ := sp; exact ⟨σ', H', J'.ofTry ok, q⟩
end

/-! ## f(k = v, ..): keywords alone -/
def tCallKw (sp : Sp) (pm : List V → List V) (E : St → XK) (tk : TA) : TE := fun σ H Q => tk σ H fun zs H1 => sp (pm zs) H1 Q (E σ)
section
variable {X : Cx} {CX : CXT} {k : Nat} {f : Addr} {fd : FuncData} {ps ks : List Str} {sp : Sp} {E : St → XK} {x : Str} {p pos : Pos} {kws : List Keyword} {tk : TA}
  {g : List Value → List Value → List Value} {gV : List V → List V → List V}
theorem pe_callKw (F : FnOk X.prog X.w X.K X.mg X.base CX k f fd ps sp) (hr : Room k X.A) (hg : Gl X x) (hm : X.mg x = some (.ref f)) (hk : PySem.W.keepIn X.K (.ref f) = true)
    (hb : KBinds X.K fd ps ks g gV) (hx : ∀ σ, PassesAt CX X σ (E σ)) (hkw : PK X kws tk)
    (hall : (backToKw pos (keywordEach kws X.env)).all (·.1.isSome) = true := by rfl) (hks : (backToKw pos (keywordEach kws X.env)).filterMap (·.1) = ks := by rfl)
    (hdb : (x == ("__debug__" : Str)) = false := by decide)
    (hpl : ((backTo pos (starEach [] X.env)).any (·.1) || (backToKw pos (keywordEach kws X.env)).any (·.1.isNone)) = false := by rfl) :
    PE X (.Call (.Name x p) [] kws pos) (tCallKw sp (gV []) E tk) := by
  constructor
  intro pins s σ H Q I h
  refine wpAny_Call_Name_kw (ld_glob I hg hm ?_ hdb)
  refine PySem.W.callWith_KW0 (h₀ := X.base) I.ok.mod.kin hk hall (thn (hkw.run pos pins s σ H _ I h) ?_) hpl
  rintro ws s2 ⟨zs, H2, I2, rz, q2⟩
  refine ⟨I2.kIn, ?_⟩
  rw [hks]
  have r2 : Vals (gV [] zs) (g [] ws) := hb.rel .nil rz
  have hl : (g [] ws).length = ps.length := by rw [← r2.length]; exact F.len _ _ _ _ q2
  refine wpAny_call (codeAny_mono (F.run X.A X.stack s2 H2 ⟨[], ks.zip ws⟩ (g [] ws) (gV [] zs) Q (E σ) hr I2.env0 (hb.to s2 [] ws I2.kIn hl) r2 q2) ?_)
  intro r s' hq
  cases r with
  | error e => exact hx σ pins H2 s2 e s' I2 hq
  | ok fl => cases fl with
    | ret u => exact I2.after hq
    | next => exact False.elim hq
    | brk => exact False.elim hq
    | cont => exact False.elim hq
end

/-! ## math.comb, and tuple * int with few turns -/
section
variable {X : Cx}
def rComb : List V → Hp → VK → Prop := fun vs H Q => ∃ a b : Int, vs = [.int a, .int b] ∧ 0 ≤ a ∧ a ≤ 1000 ∧ 0 ≤ b ∧ b ≤ 1000 ∧ Q (.int (PySem.W.mcComb a b)) H
theorem cr_comb : CallR X (.builtin "math.comb") rComb := by
  intro pins s σ H vs us Q I r h
  obtain ⟨a, b, rfl, h1, h2, h3, h4, q⟩ := h
  obtain ⟨u1, u2, rfl, r1, r2⟩ := vals2 r
  obtain ⟨t, rfl⟩ := r1
  obtain ⟨u, rfl⟩ := r2
  exact PySem.W.mc_comb h1 h3 (by omega) (by omega) fun _ => ⟨.int _, H, I.tok _, ⟨_, rfl⟩, q⟩
end

/-! ## sum of a list or a tuple of ints; x *= y of great ints; a for over a list or a tuple -/
section
variable {X : Cx}
def rSumS (K : PySem.W.Frag) : List V → Hp → VK → Prop := fun vs H Q => ∃ (a : Addr) (ns : List Int), vs = [V.ref a] ∧ (SqL K H a (ns.map V.int) ∨ SqT K H a (ns.map V.int)) ∧ Q (.int ns.sum) H
theorem cr_sumS (hc : X.calm = true) : CallR X (.builtin "sum") (rSumS X.K) := by
  intro pins s σ H vs us Q I r h
  obtain ⟨a, ns, e, hs | hs, q⟩ := h
  · exact cr_sum hc pins s σ H vs us Q I r ⟨a, ns, e, hs, q⟩
  · subst e
    obtain ⟨its, rv, hl, _⟩ := I.tuple hs
    rw [Vals.ref1 r]
    have hi := rv.ints
    have hl2 : s.heap.IsTuple a its.toArray := hl
    obtain ⟨xs, ex⟩ := hi.allInts.items
    have hn : numsOf (intItems xs).toList = ns := by rw [← ex]; exact hi.numsOf
    rw [nums_intItems] at hn
    rw [ex] at hl2
    refine PySem.W.ktm_sumG (I.ok.hd hc) hl2 fun h' tk t' hk => ?_
    rw [preSum_eq, List.take_of_length_le (by simp), hn]
    exact ⟨.int _, H, I.kept hk, ⟨_, rfl⟩, q⟩
theorem ip_mulC : PIp X .Mult (fun x y H Q => ∃ i j, x = .int i ∧ y = .int j ∧ CMul i j ∧ Q (.int (i * j)) H) := by
  intro pins s σ H x y v u Q I r1 r2 h
  obtain ⟨i, j, rfl, rfl, hc, q⟩ := h
  obtain ⟨t, rfl⟩ := r1
  obtain ⟨t', rfl⟩ := r2
  exact imul_int ⟨.int _, H, I.tok _, ⟨_, rfl⟩, q⟩ hc.ok
def iSeq (K : PySem.W.Frag) (tl : TE) : TI := fun σ H R => iList K tl σ H R ∨ iTup K tl σ H R
theorem pi_seq {tg l : Expr} {tl : TE} (hl : PE X l tl) : PI X tg l (iSeq X.K tl) := by
  constructor
  intro pins s σ H R I h
  rcases h with h | h
  · exact (pi_list hl).run pins s σ H R I h
  · exact (pi_tup hl).run pins s σ H R I h
end

/-! ## how keywords bind -/
def kw1 {α : Type} : List α → List α → List α
  | [], [a] => [a]
  | _, _ => []
def kw12 {α : Type} : List α → List α → List α
  | [], [a, b] => [a, b]
  | _, _ => []
def kw21 {α : Type} : List α → List α → List α
  | [], [a, b] => [b, a]
  | _, _ => []
theorem kw1_rel {vs : List V} {us : List Value} {zs : List V} {ws : List Value} (r : Vals vs us) (t : Vals zs ws) : Vals (kw1 vs zs) (kw1 us ws) := by
  cases r with
  | cons _ _ => exact .nil
  | nil => cases t with
    | nil => exact .nil
    | cons a t => cases t with
      | nil => exact .cons a .nil
      | cons _ _ => exact .nil
theorem kw12_rel {vs : List V} {us : List Value} {zs : List V} {ws : List Value} (r : Vals vs us) (t : Vals zs ws) : Vals (kw12 vs zs) (kw12 us ws) := by
  cases r with
  | cons _ _ => exact .nil
  | nil => cases t with
    | nil => exact .nil
    | cons a t => cases t with
      | nil => exact .nil
      | cons b t => cases t with
        | nil => exact .cons a (.cons b .nil)
        | cons _ _ => exact .nil
theorem kw21_rel {vs : List V} {us : List Value} {zs : List V} {ws : List Value} (r : Vals vs us) (t : Vals zs ws) : Vals (kw21 vs zs) (kw21 us ws) := by
  cases r with
  | cons _ _ => exact .nil
  | nil => cases t with
    | nil => exact .nil
    | cons a t => cases t with
      | nil => exact .nil
      | cons b t => cases t with
        | nil => exact .cons b (.cons a .nil)
        | cons _ _ => exact .nil
theorem kb1 {K : PySem.W.Frag} {x qual : Str} {st : Stmt} {f : Addr} {fd : FuncData} {p k : Str} (F : Fun K x qual st f fd)
    (h : ∀ (kV doc pm : Value) (an : Option Addr) (cdv ct : Value) (u : Value), bindArgs (PySem.W.fnOf x qual (defArgs st) (defBody st) (defScope st) .none kV doc pm an cdv ct) ⟨[], [(k, u)]⟩ = pure [(p, u)]) : KBinds K fd [p] [k] kw1 kw1 := by
  obtain ⟨oc, od, kV, doc, pm, an, cdv, ct, osl, rfl, lk, hcd⟩ := F.ex
  refine ⟨fun s us ws _ hl => ?_, kw1_rel⟩
  match us, ws, hl with
  | [], [u], _ => exact .of_eq (h kV doc pm an cdv ct u)
theorem kb12 {K : PySem.W.Frag} {x qual : Str} {st : Stmt} {f : Addr} {fd : FuncData} {p q k l : Str} (F : Fun K x qual st f fd)
    (h : ∀ (kV doc pm : Value) (an : Option Addr) (cdv ct : Value) (u w : Value), bindArgs (PySem.W.fnOf x qual (defArgs st) (defBody st) (defScope st) .none kV doc pm an cdv ct) ⟨[], [(k, u), (l, w)]⟩ = pure [(p, u), (q, w)]) : KBinds K fd [p, q] [k, l] kw12 kw12 := by
  obtain ⟨oc, od, kV, doc, pm, an, cdv, ct, osl, rfl, lk, hcd⟩ := F.ex
  refine ⟨fun s us ws _ hl => ?_, kw12_rel⟩
  match us, ws, hl with
  | [], [u, w], _ => exact .of_eq (h kV doc pm an cdv ct u w)
theorem kb21 {K : PySem.W.Frag} {x qual : Str} {st : Stmt} {f : Addr} {fd : FuncData} {p q k l : Str} (F : Fun K x qual st f fd)
    (h : ∀ (kV doc pm : Value) (an : Option Addr) (cdv ct : Value) (u w : Value), bindArgs (PySem.W.fnOf x qual (defArgs st) (defBody st) (defScope st) .none kV doc pm an cdv ct) ⟨[], [(k, u), (l, w)]⟩ = pure [(p, w), (q, u)]) : KBinds K fd [p, q] [k, l] kw21 kw21 := by
  obtain ⟨oc, od, kV, doc, pm, an, cdv, ct, osl, rfl, lk, hcd⟩ := F.ex
  refine ⟨fun s us ws _ hl => ?_, kw21_rel⟩
  match us, ws, hl with
  | [], [u, w], _ => exact .of_eq (h kV doc pm an cdv ct u w)

/-! ## tuple * int -/
theorem tmul0 (l : Addr) (items : Array Value) (n : Nat) (dd : Option Addr) (sl : Array (Option Value)) (u : Tok) (hne : items.isEmpty = false) :
    Meets (Builtin.«tuple.__mul__» ⟨[.ref l, .int 0 u], []⟩) (fun _ R s => s.heap.get? l = some { cls := .type "tuple", dict := dd, data := .seq items n, slots := sl } ∧
      R (.ok (.ret (Value.ref s.heap.objs.size))) { s with heap := s.heap.push { cls := Value.type "tuple", data := Data.seq #[] } }) :=
  .of_wp fun prog w A R s h => by
    obtain ⟨hp, g, d, tk, os⟩ := s
    obtain ⟨hl, h⟩ := h
    have f1 := AutoSeq1.idx_int
    have c1 : (items.isEmpty || (0 : Int) == 1) = false := by rw [hne]; rfl
    wp_walk using wpAny_loadPart' hl
    exact ⟨_, rfl, h⟩
theorem tmul1 (l : Addr) (items : Array Value) (n : Nat) (dd : Option Addr) (sl : Array (Option Value)) (u : Tok) (hne : items.isEmpty = false) :
    Meets (Builtin.«tuple.__mul__» ⟨[.ref l, .int 1 u], []⟩) (fun _ R s => s.heap.get? l = some { cls := .type "tuple", dict := dd, data := .seq items n, slots := sl } ∧
      R (.ok (.ret (Value.ref l))) s) :=
  .of_wp fun prog w A R s h => by
    obtain ⟨hp, g, d, tk, os⟩ := s
    obtain ⟨hl, h⟩ := h
    have f1 := AutoSeq1.idx_int
    wp_walk using wpAny_loadPart' hl
    exact ⟨_, rfl, h⟩

def rRepA (K : PySem.W.Frag) : R2 := fun x y H Q => ∃ (l : Addr) (k : Int) (xs : List V), x = .ref l ∧ y = .int k ∧ SqT K H l xs ∧ xs ≠ [] ∧ 0 ≤ k ∧ k ≤ 1000 ∧ xs.length ≤ 1000 ∧
  ∀ p H', Ex H H' → SqT K H' p (List.replicate k.toNat xs).flatten → Q (.ref p) H'
theorem op_repA {X : Cx} : OpR X (binaryOp .Mult) (rRepA X.K) := by
  intro pins s σ H x y v u Q I rx ry h
  obtain ⟨l, k, xs, rfl, rfl, hT, hne, h0, h1, hz, q⟩ := h
  by_cases h2 : 2 ≤ k
  · exact op_repT pins s σ H (.ref l) (.int k) v u Q I rx ry ⟨l, k, xs, rfl, rfl, hT, hne, h2, h1, hz, fun p hp => q p _ (Ex.new hp) (st_of upd_same)⟩
  · cases rx
    obtain ⟨t, rfl⟩ := ry
    obtain ⟨its, r, ⟨⟨cls, dd, data, sl⟩, ho, hc, n, hd⟩, hs⟩ := I.tuple hT
    simp only at hc hd
    subst hc hd
    have hle : its.length = xs.length := r.length.symm
    have hi : its.toArray.isEmpty = false := by
      cases its with
      | nil => exact absurd (List.eq_nil_of_length_eq_zero hle.symm) hne
      | cons a b => rfl
    rcases (by omega : k = 0 ∨ k = 1) with rfl | rfl
    · refine wpAny_binaryOp_repeat_ref (T := "tuple") (U := "int") (by decide) ⟨_, ho, rfl⟩ (fun s' => typeIs_int s' 0 t) noFill_tuple_mul F.fills_int_mul F.slot_int_rmul repeat_tuple F.slot_int_index.lookup
        (call_meets F.slot_int_rmul (typeIs_int s 0 t) F.entry_int_rmul (F.args_int_rmul_2 _ _) (int_rmul_tuple 0 t l its.toArray n dd sl)
          ⟨ho, rfl, ⟨_, ho, rfl⟩, call_meets F.slot_tuple_mul ⟨_, ho, rfl⟩ F.entry_tuple_mul (F.args_tuple_mul_2 _ _) (tmul0 l its.toArray n dd sl t hi) ⟨ho, ?_⟩⟩)
      refine ⟨.ref s.heap.objs.size, _, I.laid (t' := s.toks) (o := .tup []) (fun b ob e => Heap.get?_push_of_some _ e) (Nat.le_refl _) ?_, rfl, q _ _ (Ex.new (I.hok.fresh (Nat.le_refl _))) (st_of upd_same)⟩
      exact ⟨Nat.zero_le _, [], .nil, IsTup.new _ _⟩
    · refine wpAny_binaryOp_repeat_ref (T := "tuple") (U := "int") (by decide) ⟨_, ho, rfl⟩ (fun s' => typeIs_int s' 1 t) noFill_tuple_mul F.fills_int_mul F.slot_int_rmul repeat_tuple F.slot_int_index.lookup
        (call_meets F.slot_int_rmul (typeIs_int s 1 t) F.entry_int_rmul (F.args_int_rmul_2 _ _) (int_rmul_tuple 1 t l its.toArray n dd sl)
          ⟨ho, rfl, ⟨_, ho, rfl⟩, call_meets F.slot_tuple_mul ⟨_, ho, rfl⟩ F.entry_tuple_mul (F.args_tuple_mul_2 _ _) (tmul1 l its.toArray n dd sl t hi) ⟨ho, ?_⟩⟩)
      refine ⟨.ref l, H, I, rfl, q _ _ (Ex.refl H) ?_⟩
      have e : (List.replicate (Int.toNat 1) xs).flatten = xs := by simp
      rw [e]
      exact hT

/-! ## a def of the text, in one bundle -/
structure DefAt (K : PySem.W.Frag) (mg : Str → Option Value) (x : Str) (st : Stmt) (ps : List Str) where
  a : Addr
  fd : FuncData
  F : Fun K x x st a fd
  m : mg x = some (.ref a)
  b : Binds K fd ps []
theorem pass0At {X : Cx} {σ : St} : PassesAt CX0 X σ E0 := fun _ _ _ _ _ _ h => h.elim

/-! ## heaps: all but one object stands -/
def But (b : Addr) (H H' : Hp) : Prop := ∀ a o, a ≠ b → H a = some o → H' a = some o
theorem But.of {b : Addr} {H H' : Hp} (e : Ex H H') : But b H H' := fun a o _ h => e a o h
theorem But.trans {b : Addr} {H H1 H2 : Hp} (x : But b H H1) (y : But b H1 H2) : But b H H2 := fun a o n h => y a o n (x a o n h)
theorem But.ex {b : Addr} {H H1 H2 : Hp} (x : But b H H1) (y : Ex H1 H2) : But b H H2 := fun a o n h => y a o (x a o n h)
theorem But.pre {b : Addr} {H H1 H2 : Hp} (x : Ex H H1) (y : But b H1 H2) : But b H H2 := fun a o n h => y a o n (x a o h)
theorem But.upd {b : Addr} {H : Hp} {o : HO} : But b H (upd H b o) := fun a u n h => by rw [upd_ne n]; exact h
theorem But.none {b p : Addr} {H H' : Hp} {o : HO} (x : But b H H') (hb : H b = some o) (h : H' p = none) : p ≠ b → H p = none := fun n => by
  cases e : H p with
  | none => rfl
  | some u => rw [x p u n e] at h; cases h
theorem ne_new {H : Hp} {p b : Addr} {o : HO} (h : H p = none) (hb : H b = some o) : p ≠ b := fun e => by rw [e, hb] at h; cases h
/-- what is frozen or written stands whatever happens to b; a tracked list that is no b, too -/
theorem But.sql {K : PySem.W.Frag} {b a : Addr} {H H' : Hp} {xs : List V} (x : But b H H') (n : a ≠ b) (h : SqL K H a xs) : SqL K H' a xs := by
  rcases h with (h | ⟨o, h⟩) | h
  · exact .inl (.inl (x _ _ n h))
  · exact .inl (.inr ⟨o, x _ _ n h⟩)
  · exact .inr h
theorem But.sqt {K : PySem.W.Frag} {b a : Addr} {H H' : Hp} {xs : List V} (x : But b H H') (n : a ≠ b) (h : SqT K H a xs) : SqT K H' a xs := by
  rcases h with (h | ⟨o, h⟩) | h
  · exact .inl (.inl (x _ _ n h))
  · exact .inl (.inr ⟨o, x _ _ n h⟩)
  · exact .inr h

/-! ## the box of draws: digits, flag, seed, count; n draws are left -/
def BoxAt (H : Hp) (b : Addr) (n : Nat) : Prop := ∃ (d m c : Int) (f : Bool), H b = some (.lst [.int d, .bl f, .int m, .int c]) ∧ 0 ≤ d ∧ 0 ≤ m ∧ m < 2147483648 ∧ 0 ≤ c ∧ c + n ≤ 1000000
theorem BoxAt.some {H : Hp} {b : Addr} {n : Nat} (h : BoxAt H b n) : ∃ o, H b = some o := by
  obtain ⟨d, m, c, f, h, _⟩ := h
  exact ⟨_, h⟩
theorem BoxAt.le {H : Hp} {b : Addr} {n k : Nat} (h : BoxAt H b n) (l : k ≤ n) : BoxAt H b k := by
  obtain ⟨d, m, c, f, h, h1, h2, h3, h4, h5⟩ := h
  exact ⟨d, m, c, f, h, h1, h2, h3, h4, by omega⟩
theorem BoxAt.ex {H H' : Hp} {b : Addr} {n : Nat} (h : BoxAt H b n) (e : Ex H H') : BoxAt H' b n := by
  obtain ⟨d, m, c, f, h, r⟩ := h
  exact ⟨d, m, c, f, e _ _ h, r⟩
theorem BoxAt.ne {H : Hp} {b p : Addr} {n : Nat} (h : BoxAt H b n) (hp : H p = none) : p ≠ b := by
  obtain ⟨d, m, c, f, h, _⟩ := h
  exact ne_new hp h
def spCell (K : PySem.W.Frag) : Sp := fun vs H Q _ => ∃ (a : Addr) (ns : List Int) (k : Int), vs = [.ref a, .int k] ∧ SqL K H a (ns.map V.int) ∧ 0 ≤ k ∧ k ≤ 1000 ∧ ∀ (v : Int) H', Ex H H' → Q (.int v) H'
def spBox : Sp := fun vs H Q _ => ∃ g : Int, vs = [.int g] ∧ ∀ p H', H p = none → Ex H H' → BoxAt H' p 1000000 → Q (.ref p) H'
def spTake : Sp := fun vs H Q _ => ∃ (b : Addr) (m : Int) (n : Nat), vs = [.ref b, .int m] ∧ 0 < m ∧ m < 1073741824 ∧ BoxAt H b (n + 1) ∧
  ∀ r H', 0 ≤ r → r < m → BoxAt H' b n → But b H H' → Q (.int r) H'

/-! ## types of data -/
theorem tyL {K : PySem.W.Frag} {H : Hp} {a : Addr} {xs : List V} (h : SqL K H a xs) : TyX K H (.ref a) (.type "list") := by
  rcases h with (h | ⟨o, h⟩) | ⟨o, its, n, hk, hc, _⟩
  · exact .base (.lst h)
  · exact .base (.frz h)
  · exact .kList hk hc
theorem tyT {K : PySem.W.Frag} {H : Hp} {a : Addr} {xs : List V} (h : SqT K H a xs) : TyX K H (.ref a) (.type "tuple") := by
  rcases h with (h | ⟨o, h⟩) | ⟨o, its, n, hk, hc, _⟩
  · exact .base (.tup h)
  · exact .fTuple h
  · exact .kTuple hk hc
/-- two values that hold the same, at most n lists and tuples within one another -/
inductive Sm (K : PySem.W.Frag) (H : Hp) : Nat → V → V → Prop
  | non {n} : Sm K H n .non .non
  | bl {n} (b : Bool) : Sm K H n (.bl b) (.bl b)
  | int {n} (i : Int) : Sm K H n (.int i) (.int i)
  | str {n} (z : Str) (h : z.length ≤ 1000) : Sm K H n (.str z) (.str z)
  | lst {n} {a b : Addr} {xs ys : List V} (h1 : SqL K H a xs) (h2 : SqL K H b ys) (hl : xs.length = ys.length) (hz : xs.length ≤ 1000)
      (all : ∀ (i : Nat) (x y : V), xs[i]? = some x → ys[i]? = some y → Sm K H n x y) : Sm K H (n + 1) (.ref a) (.ref b)
  | tup {n} {a b : Addr} {xs ys : List V} (h1 : SqT K H a xs) (h2 : SqT K H b ys) (hl : xs.length = ys.length) (hz : xs.length ≤ 1000)
      (all : ∀ (i : Nat) (x y : V), xs[i]? = some x → ys[i]? = some y → Sm K H n x y) : Sm K H (n + 1) (.ref a) (.ref b)
  | dct {n} {a b : Addr} (h1 : H a = some (.dK [])) (h2 : H b = some (.dK [])) : Sm K H (n + 1) (.ref a) (.ref b)
theorem Sm.ex {K : PySem.W.Frag} {H H' : Hp} (e : Ex H H') {n : Nat} {x y : V} (h : Sm K H n x y) : Sm K H' n x y := by
  induction h with
  | non => exact .non
  | bl b => exact .bl b
  | int i => exact .int i
  | str z h => exact .str z h
  | lst h1 h2 hl hz _ ih => exact .lst (ex_l e h1) (ex_l e h2) hl hz ih
  | tup h1 h2 hl hz _ ih => exact .tup (ex_t e h1) (ex_t e h2) hl hz ih
  | dct h1 h2 => exact .dct (e _ _ h1) (e _ _ h2)
theorem Sm.succ {K : PySem.W.Frag} {H : Hp} {n : Nat} {x y : V} (h : Sm K H n x y) : Sm K H (n + 1) x y := by
  induction h with
  | non => exact .non
  | bl b => exact .bl b
  | int i => exact .int i
  | str z h => exact .str z h
  | lst h1 h2 hl hz _ ih => exact .lst h1 h2 hl hz ih
  | tup h1 h2 hl hz _ ih => exact .tup h1 h2 hl hz ih
  | dct h1 h2 => exact .dct h1 h2
theorem Sm.le {K : PySem.W.Frag} {H : Hp} {n m : Nat} {x y : V} (h : Sm K H n x y) (l : n ≤ m) : Sm K H m x y := by
  induction l with
  | refl => exact h
  | step _ ih => exact ih.succ
theorem Sm.ints {K : PySem.W.Frag} {H : Hp} {n : Nat} {ns : List Int} : ∀ (i : Nat) (x y : V), (ns.map V.int)[i]? = some x → (ns.map V.int)[i]? = some y → Sm K H n x y := by
  intro i x y h1 h2
  rw [h1] at h2
  cases h2
  rw [List.getElem?_map] at h1
  cases e : ns[i]? with
  | none => rw [e] at h1; cases h1
  | some z => rw [e] at h1; cases h1; exact .int z
def spSame (K : PySem.W.Frag) (n : Nat) : Sp := fun vs H Q _ => ∃ x y, vs = [x, y] ∧ Sm K H n x y ∧ ∀ H', Ex H H' → Q (.bl true) H'
theorem cut_one {z : Str} {k : Nat} {c : Nat} (h : z.cps.toList[k]? = some c) : cutS z (some (k : Int)) (some ((k : Int) + 1)) = ⟨#[c]⟩ := by
  have hk := (List.getElem?_eq_some_iff.mp h).1
  have hz : z.cps.toList.length = z.length := Array.length_toList
  unfold cutS
  have e : ((k : Int) + 1) = ((k + 1 : Nat) : Int) := by omega
  rw [e, HT.sIx_nat, HT.sIx_nat, Nat.min_eq_left (by omega), Nat.min_eq_left (by omega)]
  have e2 : k + 1 - k = 1 := by omega
  rw [e2, List.drop_eq_getElem_cons hk]
  have e3 := (List.getElem?_eq_some_iff.mp h).2
  simp [e3]

/-! ## the rules whose reading speaks of the written part, with it named (within a comprehension's block) -/
section
variable {X : Cx}
def rLen (K : PySem.W.Frag) : List V → Hp → VK → Prop := fun xs H Q => ∃ x n, xs = [x] ∧ LenV K x H n ∧ Q (.int (n : Nat)) H
def rListOf (K : PySem.W.Frag) : List V → Hp → VK → Prop := fun xs H Q => ∃ p ys, xs = [.ref p] ∧ (SqL K H p ys ∨ SqT K H p ys) ∧ ∀ l, H l = none → Q (.ref l) (upd H l (.lst ys))
def rTupOf (K : PySem.W.Frag) : List V → Hp → VK → Prop := fun xs H Q => ∃ p ys, xs = [.ref p] ∧ ((SqL K H p ys ∧ ∀ l, H l = none → Q (.ref l) (upd H l (.tup ys))) ∨ (SqT K H p ys ∧ Q (.ref p) H))
theorem kix (K : PySem.W.Frag) (h : X.K = K := by rfl) : IxR X (rIx K) := by subst h; exact ix_seq
theorem kixl (K : PySem.W.Frag) (h : X.K = K := by rfl) : IxR X (rIxL K) := by subst h; exact ix_list
theorem kixt (K : PySem.W.Frag) (h : X.K = K := by rfl) : IxR X (rIxT K) := by subst h; exact ix_tup
theorem klen (K : PySem.W.Frag) (h : X.K = K := by rfl) : CallR X (.builtin "len") (rLen K) := by subst h; exact call_len
theorem klist (K : PySem.W.Frag) (h : X.K = K := by rfl) : CallR X (.type "list") (rListOf K) := by subst h; exact call_list_of
theorem ktuple (K : PySem.W.Frag) (h : X.K = K := by rfl) : CallR X (.type "tuple") (rTupOf K) := by subst h; exact call_tuple_of
theorem kisi (K : PySem.W.Frag) (h : X.K = K := by rfl) : CallR X (.builtin "isinstance") (rIsi K) := by subst h; exact call_isi
theorem kisiT (K : PySem.W.Frag) (h : X.K = K := by rfl) : CallR X (.builtin "isinstance") (rIsiT K) := by subst h; exact call_isiT
theorem keqD (K : PySem.W.Frag) (hu : X.A.units + 64 < cLine) (h : X.K = K := by rfl) : OpR X (compareOp .Eq) (rEqD K) := by subst h; exact op_eqD hu
theorem kneD (K : PySem.W.Frag) (hu : X.A.units + 64 < cLine) (h : X.K = K := by rfl) : OpR X (compareOp .NotEq) (rNeD K) := by subst h; exact op_neD hu
theorem kin (K : PySem.W.Frag) (h : X.K = K := by rfl) : OpR X (compareOp .In) (rIn K false) := by subst h; exact op_in_seq
theorem knotin (K : PySem.W.Frag) (h : X.K = K := by rfl) : OpR X (compareOp .NotIn) (rIn K true) := by subst h; exact op_notIn_seq
theorem kcatA (K : PySem.W.Frag) (h : X.K = K := by rfl) : OpR X (binaryOp .Add) (rCatA K) := by subst h; exact op_catA
theorem krepA (K : PySem.W.Frag) (h : X.K = K := by rfl) : OpR X (binaryOp .Mult) (rRepA K) := by subst h; exact op_repA
theorem kslL (K : PySem.W.Frag) (h : X.K = K := by rfl) : SlR X (rSlL K) := by subst h; exact sl_list
theorem kslT (K : PySem.W.Frag) (h : X.K = K := by rfl) : SlR X (rSlA K) := by subst h; exact sl_tupA
theorem ksum (K : PySem.W.Frag) (hc : X.calm = true) (h : X.K = K := by rfl) : CallR X (.builtin "sum") (rSumS K) := by subst h; exact cr_sumS hc
theorem kall (K : PySem.W.Frag) (hc : X.calm = true) (h : X.K = K := by rfl) : CallR X (.builtin "all") (rAll K) := by subst h; exact cr_all hc
theorem kpil (K : PySem.W.Frag) {tg l : Expr} {tl : TE} (hl : PE X l tl) (h : X.K = K := by rfl) : PI X tg l (iList K tl) := by subst h; exact pi_list hl
theorem kpit (K : PySem.W.Frag) {tg l : Expr} {tl : TE} (hl : PE X l tl) (h : X.K = K := by rfl) : PI X tg l (iTup K tl) := by subst h; exact pi_tup hl
theorem kpis (K : PySem.W.Frag) {tg l : Expr} {tl : TE} (hl : PE X l tl) (h : X.K = K := by rfl) : PI X tg l (iSeq K tl) := by subst h; exact pi_seq hl
end

/-! ## own errors with one attribute -/
structure ErrAt (K : PySem.W.Frag) (mg : Str → Option Value) (x qi : Str) (st : Stmt) (f : Str) where
  C : Addr
  fI : Addr
  fd : FuncData
  F : Fun K "__init__" qi st fI fd
  b : Binds K fd ["self", f] []
  T : OexC K C
  iC : PySem.W.findIn K (.ref C) "__init__" = some (some (.ref fI))
  tI : PySem.W.typeIn K (.ref fI) = some (.type "function")
  gC : mg x = some (.ref C)
  nf : PySem.W.findIn K (.ref C) f = some none
  xf : XfC K C
def spInit (C : Addr) (f : Str) : Sp := fun vs H Q _ => ∃ (a : Addr) (y : V), vs = [.ref a, y] ∧ H a = some (exo a C none) ∧
  ∀ d, H d = none → d ≠ a → Q .non (upd (upd H d (exd d [(f, y)])) a (exo a C (some d)))
theorem raised {C a : Addr} {H : Hp} {f : Str} {y : V} {Q : XK} {E : XK} (ha : H a = none) (q : ∀ d H', Ex H H' → H' d = some (.xd [(f, y)]) → Q (.ref C) (some d) H') :
    spInit C f [.ref a, y] (upd H a (exo a C none)) (fun v H2 => v = .non ∧ ∃ (d : Addr) (fs : List (Str × V)), H2 a = some (exo a C (some d)) ∧ H2 d = some (exd d fs) ∧ H d = none ∧ Q (.ref C) (some d) (upd (del H2 a) d (.xd fs))) E := by
  refine ⟨a, y, rfl, upd_same, fun d hd nd => ⟨rfl, d, [(f, y)], upd_same, ?_, ?_, ?_⟩⟩
  · rw [upd_ne nd]; exact upd_same
  · rw [upd_ne nd] at hd; exact hd
  · rw [upd_ne nd] at hd
    refine q d _ (fun b o hb => ?_) upd_same
    have h1 : b ≠ a := ne_of_none hb ha
    have h2 : b ≠ d := ne_of_none hb hd
    rw [upd_ne h2, del_ne h1, upd_ne h1, upd_ne h2, upd_ne h1]
    exact hb
/-- a check: it lets what is right, else raises the error of C with the very value -/
def spChk (C : Addr) (ok : Int → Prop) : Sp := fun vs H Q E => ∃ i : Int, vs = [.int i] ∧ (ok i → ∀ H', Ex H H' → Q .non H') ∧
  (¬ ok i → ∀ d H', Ex H H' → H' d = some (.xd [("given", .int i)]) → E (.ref C) (some d) H')
end L2.U


set_option Elab.async false
set_option linter.all false
set_option maxRecDepth 100000
set_option maxHeartbeats 4000000
namespace L2.U
open PySem PySem.Spec PyProof.Rows Evl
open Sem (wp)
open AutoSeq1 (wpAny_loadPart')
/-! ### enumerate(tuple), and enumerate of a list or a tuple -/
theorem meets_enumT (l : Addr) (items : Array Value) (n : Nat) (dct : Option Addr) (sl : Array (Option Value)) :
    Meets (Builtin.«enumerate.__new__» ⟨[.type "enumerate", .ref l], []⟩) (fun _ R s => s.heap.get? l = some { cls := .type "tuple", dict := dct, data := .seq items n, slots := sl } ∧
      R (.ok (.ret (.ref (s.heap.push { cls := .type "tuple_iterator", data := .fields #[.ref l, .int 0 0] }).objs.size)))
        { s with heap := (s.heap.push { cls := .type "tuple_iterator", data := .fields #[.ref l, .int 0 0] }).push { cls := .type "enumerate", data := .fields #[.none, .bool false, .ref s.heap.objs.size, rawInt 0, .none, .none] } }) :=
  .of_wp fun prog w A R s h => by
    obtain ⟨hp, g, d, tk, os⟩ := s
    obtain ⟨hl, h⟩ := h
    have hsub := sub_enumerate
    have hL : Heap.IsTuple (Shared.heap ⟨hp, g, d, tk, os⟩) l items := ⟨_, hl, rfl, n, rfl⟩
    wp_walk using wpAny_loadPart' hl
    refine wpAny_stack_any fun st => wpAny_pure ?_
    split
    · rename_i c _ _ _ _ _
      cases (c == Value.type "enumerate")
      · wp_walk using wpAny_loadPart' hl, wpAny_pyIter_tuple hL
        exact ⟨_, rfl, h⟩
      · wp_walk using wpAny_loadPart' hl, wpAny_pyIter_tuple hL
        exact ⟨_, rfl, h⟩
    · wp_walk using wpAny_loadPart' hl, wpAny_pyIter_tuple hL
      exact ⟨_, rfl, h⟩
theorem call_enumT {prog : Program} {w : World} {A : Around} {E : Value → Shared → Prop} {s : Shared} {l : Addr} {items : Array Value} {Q : Value → Shared → Prop} (hL : s.heap.IsTuple l items)
    (h : ∀ h', IsEnum h' (s.heap.objs.size + 1) s.heap.objs.size 0 .none → h'.IsTupleIter s.heap.objs.size l 0 → h'.objs.size = s.heap.objs.size + 2 →
      (∀ b o, s.heap.get? b = some o → h'.get? b = some o) → Q (.ref (s.heap.objs.size + 1)) { s with heap := h' }) :
    wpAny (model prog w) A (call (.type "enumerate") [.ref l]) Q E s := by
  obtain ⟨⟨c, dct, dt, sl⟩, hl, hc, n, hd⟩ := hL
  replace hc : c = .type "tuple" := hc
  replace hd : dt = .seq items n := hd
  subst hc hd
  refine callType_new F.called_enumerate (by decide) (F.typeCall_enumerate_1 _) (F.newCall_enumerate_1 _) (fun obj => F.args_object_init_2 obj _) F.entry_enumerate_new
    (meets_enumT l items n dct sl) ⟨hl, ?_⟩
  have hz : (s.heap.push { cls := .type "tuple_iterator", data := .fields #[.ref l, .int 0 0] }).objs.size = s.heap.objs.size + 1 := Heap.size_push ..
  show _ ∧ _
  rw [hz]
  have he : IsEnum ((s.heap.push { cls := .type "tuple_iterator", data := .fields #[.ref l, .int 0 0] }).push
      { cls := .type "enumerate", data := .fields #[.none, .bool false, .ref s.heap.objs.size, rawInt 0, .none, .none] }) (s.heap.objs.size + 1) s.heap.objs.size 0 .none := by
    have := Heap.get?_push_size (s.heap.push { cls := .type "tuple_iterator", data := .fields #[.ref l, .int 0 0] })
      (o := { cls := .type "enumerate", data := .fields #[.none, .bool false, .ref s.heap.objs.size, rawInt 0, .none, .none] }) rfl
    rw [hz] at this
    exact this
  refine ⟨⟨_, he, rfl⟩, h _ he ⟨_, Heap.get?_push_of_some _ (Heap.get?_push_size _ rfl), rfl, rfl⟩ (by rw [Heap.size_push, hz]) fun b o x => Heap.get?_push_of_some _ (Heap.get?_push_of_some _ x)⟩
def IteT (K : PySem.W.Frag) (a : Addr) : It :=
  ⟨fun i H => ∃ (xs : List V) (x : V), SqT K H a xs ∧ xs[i]? = some x, fun i H v H' => ∃ T x, v = .ref T ∧ H T = none ∧ H' = upd H T (.tup [.int (i : Nat), x]) ∧ ∀ xs, SqT K H a xs → xs[i]? = some x, fun i H => ∃ xs : List V, SqT K H a xs ∧ xs.length ≤ i⟩
theorem turn_enumT {P : Program} {w : World} {K : PySem.W.Frag} {elts : List Expr} {kk : Nat} {tpos : Pos} (a e it : Addr) (hai : a ≠ it) (hae : a ≠ e) :
    Turn P w K (.Tuple elts kk tpos) (IteT K a) [e, it] e (fun i h => (∃ old, IsEnum h e it ((i : Nat) : Int) old) ∧ h.IsTupleIter it a i ∧ e ≠ it) where
  mem := by simp
  obj := fun i h st b hb => by
    obtain ⟨⟨old, he⟩, ⟨o, ho, hc, hd⟩, _⟩ := st
    have e' : b = e ∨ b = it := by simpa using hb
    rcases e' with z | z
    · rw [z]; exact ⟨_, he, fun v q => nomatch q⟩
    · rw [z]; exact ⟨o, ho, fun v q => by rw [hd] at q; cases q⟩
  keep := fun i h h' st k => let ⟨⟨old, he⟩, hi, hne⟩ := st; ⟨⟨old, k e (by simp) _ he⟩, hi.at fun o q => k it (by simp) o q, hne⟩
  item := by
    intro X hP hw hK hc i pins s σ H E I hf st hg
    subst hP hw hK
    obtain ⟨⟨old, he⟩, hit, hne⟩ := st
    obtain ⟨xs, x, hq, hx⟩ := hg
    obtain ⟨its, rv, p, hz⟩ := I.tuple hq
    have p' : s.heap.IsTuple a its.toArray := p
    obtain ⟨u, hu, ru⟩ := rv.get hx
    have hel : e < s.heap.objs.size := Heap.lt_size he
    have hil : it < s.heap.objs.size := by obtain ⟨_, q, _⟩ := hit; exact Heap.lt_size q
    have hlt : i < its.toArray.size := by simpa using (List.getElem?_eq_some_iff.mp hu).1
    refine wpAny_pyNext_enum_itemD (Draws.tuple (prog := X.prog) (w := X.w) (A := X.A.in1) (I.ok.hd hc) it a hai its.toArray) he ⟨hit, p'⟩ hlt hne (by simp [hne, Ne.symm hae]) fun v h' tk hv ho hst hT hsz hk => ?_
    obtain ⟨hit', p2⟩ := hst
    have hvu : v = u := by
      have h2 : its.toArray[i]? = some u := by simpa using hu
      rw [h2] at hv
      exact (Option.some.inj hv).symm
    subst hvu
    refine ⟨_, rfl, wpAny_letOwnedTupleGo_enum (s := { s with heap := h', toks := tk + 1 }) ho fun h'' he' sb => ?_⟩
    have hT2 : h''.get? s.heap.objs.size = some { cls := .type "tuple", data := .seq #[.int i tk, v] } := (sb.2 _ (Nat.ne_of_gt hel)).trans hT
    have new : ObjOk X.prog X.w (upd H s.heap.objs.size (.tup [.int (i : Nat), x])) h'' s.heap.objs.size (.tup [.int (i : Nat), x]) :=
      ⟨by show 2 ≤ sizeLine; decide, [.int i tk, v], .cons ⟨_, rfl⟩ (.cons ru .nil), ⟨_, hT2, rfl, _, rfl⟩⟩
    have I1 : Inv X pins σ (upd H s.heap.objs.size (.tup [.int (i : Nat), x])) { s with heap := h'', toks := tk + 1 } :=
      I.turnedNew (ch := [e, it]) (fun b ob hb q => (sb.2 b (fun z => hb (by simp [z]))).trans (hk b ob (fun z => hb (by simp [z])) (fun z => hb (by simp [z])) q)) hf (Nat.le_refl _) new
    refine ⟨.ref s.heap.objs.size, _, I1, rfl, ⟨_, x, rfl, I.hok.fresh (Nat.le_refl _), rfl, fun ys hy => by rw [I.tuple_inj hy hq]; exact hx⟩, ⟨⟨v, ?_⟩, hit'.at fun o q => (sb.2 it (Ne.symm hne)).trans q, hne⟩, fun b hb => ?_⟩
    · have e1 : ((i + 1 : Nat) : Int) = (i : Int) + 1 := by omega
      rw [e1]; exact he'
    · have hb' : b < s.heap.objs.size := by
        have e' : b = e ∨ b = it := by simpa using hb
        rcases e' with z | z
        · rw [z]; exact hel
        · rw [z]; exact hil
      rw [upd_ne (Nat.ne_of_lt hb')]
      exact (hf b hb).1
  done := by
    intro X hP hw hK hc i pins s σ H E I hf st hg
    subst hP hw hK
    obtain ⟨⟨old, he⟩, hit, hne⟩ := st
    obtain ⟨xs, hq, hx⟩ := hg
    obtain ⟨its, rv, p, hz⟩ := I.tuple hq
    have p' : s.heap.IsTuple a its.toArray := p
    obtain ⟨f0, f1, f2, f3, f4, f5⟩ := hf it (by simp)
    have hl := rv.length
    have full : Draws X.prog X.w X.A.in1 it [it, a] i (fun _ _ => True) (fun j h => j = i ∧ h.IsTupleIter it a j ∧ h.IsTuple a its.toArray) :=
      { live := fun j h st => let ⟨_, ⟨o, ho, _⟩, _⟩ := st; ⟨o, ho⟩
        frame := fun j h h' st hk => ⟨st.1, st.2.1.at fun o e => hk it (by simp) o e, by
          obtain ⟨o, ho, r⟩ := st.2.2
          exact ⟨o, hk a (by simp) o ho, r⟩⟩
        item := fun j s Q E hj st hQ => absurd st.1 (Nat.ne_of_lt hj)
        done := fun s Q E st hE => wpAny_nextOf_tuple_end (show X.A.in1.handled = none from I.ok.hd hc) st.2.1 st.2.2 (by simp; omega) hE }
    exact wpAny_pyNext_enum_endD full he ⟨rfl, hit, p'⟩ fun h' eb => ⟨rfl, I.turned (t' := s.toks) (fun b o hb q => eb b o hb q) f0 f1 f3 f4 f5⟩
  self := fun A i s Q E st h => let ⟨⟨_, he⟩, _⟩ := st; wpAny_pyIter_enum he h
def iEnumT (K : PySem.W.Frag) (ta : TA) : TI := fun σ H R => ta σ H fun vs H1 => ∃ a xs, vs = [.ref a] ∧ SqT K H1 a xs ∧ R (IteT K a) H1
theorem pi_enumT {X : Cx} {e : Expr} {ta : TA} {p pos tpos : Pos} {elts : List Expr} {kk : Nat} (hg : Gl X "enumerate") (hm : X.mg "enumerate" = none) (ha : PA X [e] ta) (hs : starEach [e] X.env = [(false, eval e X.env)] := by rfl) :
    PI X (.Tuple elts kk tpos) (.Call (.Name "enumerate" p) [e] [] pos) (iEnumT X.K ta) := by
  refine ⟨fun pins s σ H R I h => ?_⟩
  refine Call_ (ld_blt I hg hm boot_enumerate (PyProof.Rows.callWith_type1 (thn (ha.run pos pins s σ H _ I h) fun us s1 ⟨vs, H1, I1, r1, q1⟩ => ?_) hs rfl))
  obtain ⟨a, xs, ex, hq, q⟩ := q1
  subst ex
  cases r1 with
  | cons r rr =>
    cases rr
    cases r
    obtain ⟨its, rv, p', hz⟩ := I1.tuple hq
    have p2 : s1.heap.IsTuple a its.toArray := p'
    have hal : a < s1.heap.objs.size := by obtain ⟨_, q, _⟩ := p2; exact Heap.lt_size q
    refine call_enumT p2 fun h' he hit hsz hk => wpAny_pyIter_enum he ?_
    have I2 : Inv X pins σ H1 { s1 with heap := h' } := I1.kept (t' := s1.toks) hk
    refine ⟨s1.heap.objs.size + 1, [s1.heap.objs.size + 1, s1.heap.objs.size], _, _, H1, rfl, I2, turn_enumT a (s1.heap.objs.size + 1) s1.heap.objs.size (Nat.ne_of_lt hal) (Nat.ne_of_lt (Nat.lt_succ_of_lt hal)), ⟨⟨.none, he⟩, hit, Nat.succ_ne_self _⟩, fun b hb => ?_, q⟩
    have e' : b = s1.heap.objs.size + 1 ∨ b = s1.heap.objs.size := by simpa using hb
    have hle : s1.heap.objs.size ≤ b := by
      rcases e' with z | z
      · rw [z]; exact Nat.le_add_right _ _
      · rw [z]; exact Nat.le_refl _
    exact I1.fpOk hle (I1.hok.fresh hle)
def iEnumS (K : PySem.W.Frag) (ta : TA) : TI := fun σ H R => iEnum K ta σ H R ∨ iEnumT K ta σ H R
theorem pi_enumS {X : Cx} {e : Expr} {ta : TA} {p pos tpos : Pos} {elts : List Expr} {kk : Nat} (hg : Gl X "enumerate") (hm : X.mg "enumerate" = none) (ha : PA X [e] ta) (hs : starEach [e] X.env = [(false, eval e X.env)] := by rfl) :
    PI X (.Tuple elts kk tpos) (.Call (.Name "enumerate" p) [e] [] pos) (iEnumS X.K ta) := by
  refine ⟨fun pins s σ H R I h => ?_⟩
  rcases h with h | h
  · exact (pi_enum hg hm ha hs).run pins s σ H R I h
  · exact (pi_enumT hg hm ha hs).run pins s σ H R I h
section
variable {K : PySem.W.Frag} {a : Addr} {xs : List V}
theorem walk_enumT : Walk (IteT K a) xs.length (fun H => SqT K H a xs) (YPair (fun i => some (.int (i : Nat))) (fun i => xs[i]?)) := by
  refine ⟨fun i _ hi q => ⟨xs, xs[i], q, by simp [hi]⟩, fun _ q => ⟨xs, q, Nat.le_refl _⟩, fun i H v H' _ q y => ?_⟩
  obtain ⟨T, x, h1, h2, h3, h4⟩ := y
  exact ⟨T, .int (i : Nat), x, h1, h2, h3, rfl, h4 xs q⟩
/-- for i, x in enumerate(xs) with two names as the target: the pair is a new tuple that nobody keeps -/
theorem for_enum {tb : TS} {D : Ends} {σ : L2.St} {H : Hp} {p q : Nat} {ta : TA} (ea : ∀ R : List V → Hp → Prop, R [.ref a] H → ta σ H R) (hx : SqL K H a xs ∨ SqT K H a xs) (Pv : Nat → L2.St → Hp → Prop) (h0 : Pv 0 σ H)
    (hG : ∀ i σ H', i ≤ xs.length → Pv i σ H' → Ex H H')
    (hs : ∀ i x σ H' T, xs[i]? = some x → Pv i σ H' → H' T = none → tb { D with nx := Pv (i + 1), ct := Pv (i + 1), bk := D.nx } ((σ.set p (some (.int (i : Int)))).set q (some x)) (upd H' T (.tup [.int (i : Int), x]))) (hd : ∀ σ H, Pv xs.length σ H → D.nx σ H) :
    tFor (iEnumS K ta) (gTup K 2 (gCons (gName p) (gCons (gName q) gNil))) tb D σ H := by
  have turn : ∀ i v σ' H1 H2, i < xs.length → Pv i σ' H1 → YPair (fun i => some (V.int (i : Nat))) (fun i => xs[i]?) i H1 v H2 → gTup K 2 (gCons (gName p) (gCons (gName q) gNil)) v σ' H2 fun σ2 H3 => tb { D with nx := Pv (i + 1), ct := Pv (i + 1), bk := D.nx } σ2 H3 := by
    rintro i v σ' H1 H2 hi pv ⟨T, u, x, rfl, hT, rfl, h1, h2⟩
    cases Option.some.inj h1
    exact ⟨T, _, rfl, SqT.of upd_same, rfl, _, _, rfl, _, _, rfl, rfl, hs i x σ' H1 T h2 pv hT⟩
  rcases hx with hx | hx
  · exact .inl (ea _ ⟨a, xs, rfl, hx, for_it walk_enum Pv h0 (fun i σ' H' hi pv => ex_l (hG i σ' H' hi pv) hx) turn hd⟩)
  · exact .inr (ea _ ⟨a, xs, rfl, hx, for_it walk_enumT Pv h0 (fun i σ' H' hi pv => ex_t (hG i σ' H' hi pv) hx) turn hd⟩)
end
end L2.U


set_option Elab.async false
set_option linter.all false
set_option maxRecDepth 100000
set_option maxHeartbeats 4000000
namespace L2.U
open PySem PySem.Spec PyProof.Rows Evl
def top (i : Nat) : Stmt := PySem.Challenge.pw_upforgood_k05_rounds_refused.main.body.getD i (.Pass ⟨0, 0, 0, 0⟩)
abbrev s_is_integer : Stmt := top 2
theorem sc_is_integer : FnScope ["value"] ["value"] (defScope s_is_integer) := ⟨rfl, rfl, rfl, by decide +kernel, rfl, by decide +kernel, by decide +kernel⟩
abbrev s_is_between : Stmt := top 3
theorem sc_is_between : FnScope ["value", "low", "high"] ["value", "low", "high"] (defScope s_is_between) := ⟨rfl, rfl, rfl, by decide +kernel, rfl, by decide +kernel, by decide +kernel⟩
abbrev s_is_from : Stmt := top 4
theorem sc_is_from : FnScope ["value", "low"] ["value", "low"] (defScope s_is_from) := ⟨rfl, rfl, rfl, by decide +kernel, rfl, by decide +kernel, by decide +kernel⟩
abbrev s_is_list : Stmt := top 5
theorem sc_is_list : FnScope ["value"] ["value"] (defScope s_is_list) := ⟨rfl, rfl, rfl, by decide +kernel, rfl, by decide +kernel, by decide +kernel⟩
abbrev s_are_from : Stmt := top 7
theorem sc_are_from : FnScope ["values", "low", "value"] ["values", "low"] (defScope s_are_from) := ⟨rfl, rfl, rfl, by decide +kernel, rfl, by decide +kernel, by decide +kernel⟩
abbrev s_law_cell : Stmt := top 43
theorem sc_law_cell : FnScope ["script", "k"] ["script", "k"] (defScope s_law_cell) := ⟨rfl, rfl, rfl, by decide +kernel, rfl, by decide +kernel, by decide +kernel⟩
abbrev s_law_box : Stmt := top 44
theorem sc_law_box : FnScope ["great"] ["great"] (defScope s_law_box) := ⟨rfl, rfl, rfl, by decide +kernel, rfl, by decide +kernel, by decide +kernel⟩
abbrev s_law_take : Stmt := top 45
theorem sc_law_take : FnScope ["box", "many", "digit", "mixed"] ["box", "many"] (defScope s_law_take) := ⟨rfl, rfl, rfl, by decide +kernel, rfl, by decide +kernel, by decide +kernel⟩
abbrev s_law_same : Stmt := top 46
theorem sc_law_same : FnScope ["told", "due", "k"] ["told", "due"] (defScope s_law_same) := ⟨rfl, rfl, rfl, by decide +kernel, rfl, by decide +kernel, by decide +kernel⟩
structure TA1 (K : PySem.W.Frag) (mg : Str → Option Value) where
  is_integer : DefAt K mg "is_integer" s_is_integer ["value"]
  is_between : DefAt K mg "is_between" s_is_between ["value", "low", "high"]
  is_from : DefAt K mg "is_from" s_is_from ["value", "low"]
  is_list : DefAt K mg "is_list" s_is_list ["value"]
  are_from : DefAt K mg "are_from" s_are_from ["values", "low"]
  law_cell : DefAt K mg "_law_cell" s_law_cell ["script", "k"]
  law_box : DefAt K mg "_law_box" s_law_box ["great"]
  law_take : DefAt K mg "_law_take" s_law_take ["box", "many"]
  law_same : DefAt K mg "_law_same" s_law_same ["told", "due"]
  z_int : mg "int" = none
  z_bool : mg "bool" = none
  z_str : mg "str" = none
  z_list : mg "list" = none
  z_tuple : mg "tuple" = none
  z_len : mg "len" = none
  z_sum : mg "sum" = none
  z_abs : mg "abs" = none
  z_all : mg "all" = none
  z_range : mg "range" = none
  z_isinstance : mg "isinstance" = none
section
variable {P : Program} {w : World} {K : PySem.W.Frag} {mg : Str → Option Value} {base : Heap}
def isI : V → Bool
  | .int _ => true
  | _ => false
/-- a value of one of the kinds of data -/
def Dat (K : PySem.W.Frag) (H : Hp) (x : V) : Prop := ∃ t, t ∈ ["NoneType", "bool", "int", "str", "list", "tuple", "dict"] ∧ TyX K H x (.type t) ∧ isI x = decide (t = "int")
theorem Dat.int {H : Hp} {i : Int} : Dat K H (.int i) := ⟨"int", by decide, .base (.int i), rfl⟩
theorem Dat.ex {H H' : Hp} {x : V} (e : Ex H H') (h : Dat K H x) : Dat K H' x := by
  obtain ⟨t, ht, ty, hi⟩ := h
  refine ⟨t, ht, ?_, hi⟩
  cases ty with
  | base b =>
    refine .base ?_
    cases b with
    | non => exact .non
    | bl x => exact .bl x
    | int i => exact .int i
    | str z => exact .str z
    | flt z => exact .flt z
    | lst h => exact .lst (e _ _ h)
    | frz h => exact .frz (e _ _ h)
    | tup h => exact .tup (e _ _ h)
    | dK h => exact .dK (e _ _ h)
    | dT h => exact .dT (e _ _ h)
  | byt b => exact .byt b
  | set h => exact .set (e _ _ h)
  | kList a b => exact .kList a b
  | kTuple a b => exact .kTuple a b
  | kDict a b => exact .kDict a b
  | fTuple h => exact .fTuple (e _ _ h)
  | fDict h => exact .fDict (e _ _ h)
def spIsInteger (K : PySem.W.Frag) : Sp := fun vs H Q _ => ∃ x, vs = [x] ∧ Dat K H x ∧ Q (.bl (isI x)) H
theorem ok_is_integer (T : TA1 K mg) : FnOk P w K mg base CX0 1 T.is_integer.a T.is_integer.fd ["value"] (spIsInteger K) := by
  refine T.is_integer.F.ok sc_is_integer (fun vs H Q E h => ?_) (fun cdv A outer s H vs Q E hr h => ?_)
  · obtain ⟨x, rfl, _⟩ := h; rfl
  obtain ⟨x, rfl, ⟨t, ht, ty, hi⟩, q⟩ := h
  refine ⟨_, (pss_one (ps_ret (pe_and (pe_callB (kisi K) (by rfl) T.z_isinstance (by decide +kernel) (pa_cons (pv 0) (pa_cons (pe_bltn (v := .ty "int") rfl T.z_int (by decide +kernel) rfl) pa_nil))) (pe_one (pe_not (pe_callB (kisi K) (by rfl) T.z_isinstance (by decide +kernel) (pa_cons (pv 0) (pa_cons (pe_bltn (v := .ty "bool") rfl T.z_bool (by decide +kernel) rfl) pa_nil)))))))), ?_⟩
  simp only [List.mem_cons, List.not_mem_nil, or_false] at ht
  rcases ht with rfl | rfl | rfl | rfl | rfl | rfl | rfl
  · refine ⟨_, rfl, _, _, _, _, _, rfl, .ty "int", ty, kit_ty (r := false) (by decide +kernel), false, rfl, iteF ?_⟩
    rw [hi] at q; exact q
  · refine ⟨_, rfl, _, _, _, _, _, rfl, .ty "int", ty, kit_ty (r := true) (by decide +kernel), true, rfl, iteT ?_⟩
    refine ⟨_, rfl, _, _, _, _, _, rfl, .ty "bool", ty, kit_ty (r := true) (by decide +kernel), true, rfl, ?_⟩
    rw [hi] at q; exact q
  · refine ⟨_, rfl, _, _, _, _, _, rfl, .ty "int", ty, kit_ty (r := true) (by decide +kernel), true, rfl, iteT ?_⟩
    refine ⟨_, rfl, _, _, _, _, _, rfl, .ty "bool", ty, kit_ty (r := false) (by decide +kernel), false, rfl, ?_⟩
    rw [hi] at q; exact q
  all_goals
    refine ⟨_, rfl, _, _, _, _, _, rfl, .ty "int", ty, kit_ty (r := false) (by decide +kernel), false, rfl, iteF ?_⟩
    rw [hi] at q; exact q
def spIsFrom (K : PySem.W.Frag) : Sp := fun vs H Q _ => ∃ (x : V) (lo : Int), vs = [x, .int lo] ∧ Dat K H x ∧ ∀ b, (∀ i, x = .int i → b = decide (lo ≤ i)) → (isI x = false → b = false) → Q (.bl b) H
theorem isI_int {x : V} (h : isI x = true) : ∃ i, x = .int i := by
  cases x <;> first | exact ⟨_, rfl⟩ | cases h
theorem ok_is_from (T : TA1 K mg) : FnOk P w K mg base CX0 2 T.is_from.a T.is_from.fd ["value", "low"] (spIsFrom K) := by
  refine T.is_from.F.ok sc_is_from (fun vs H Q E h => ?_) (fun cdv A outer s H vs Q E hr h => ?_)
  · obtain ⟨x, lo, rfl, _⟩ := h; rfl
  obtain ⟨x, lo, rfl, hd, q⟩ := h
  refine ⟨_, (pss_one (ps_ret (pe_and (pe_call (ok_is_integer T) (hr.mono (by decide)) rfl T.is_integer.m T.is_integer.F.kp T.is_integer.b .nil pass0 (pa_cons (pv 0) pa_nil)) (pe_one (pe_cmpR op_le (pv 1) (pv 0) (nomark _)))))), ?_⟩
  refine ⟨_, rfl, _, rfl, hd, isI x, rfl, ?_⟩
  cases hx : isI x with
  | false => exact q false (fun i e => by rw [e] at hx; cases hx) (fun _ => rfl)
  | true =>
    obtain ⟨i, rfl⟩ := isI_int hx
    refine ⟨_, rfl, _, rfl, _, _, rfl, rfl, q _ (fun j e => by cases e; rfl) (fun e => by cases e)⟩
def spIsBetween (K : PySem.W.Frag) : Sp := fun vs H Q _ => ∃ (x : V) (lo hi : Int), vs = [x, .int lo, .int hi] ∧ Dat K H x ∧ ∀ b, (∀ i, x = .int i → b = decide (lo ≤ i ∧ i ≤ hi)) → (isI x = false → b = false) → Q (.bl b) H
theorem ok_is_between (T : TA1 K mg) : FnOk P w K mg base CX0 2 T.is_between.a T.is_between.fd ["value", "low", "high"] (spIsBetween K) := by
  refine T.is_between.F.ok sc_is_between (fun vs H Q E h => ?_) (fun cdv A outer s H vs Q E hr h => ?_)
  · obtain ⟨x, lo, hi, rfl, _⟩ := h; rfl
  obtain ⟨x, lo, hi, rfl, hd, q⟩ := h
  refine ⟨_, (pss_one (ps_ret (pe_and (pe_call (ok_is_integer T) (hr.mono (by decide)) rfl T.is_integer.m T.is_integer.F.kp T.is_integer.b .nil pass0 (pa_cons (pv 0) pa_nil)) (pe_one (pe_chain op_le op_le (pv 1) (pv 0) (pv 2)))))), ?_⟩
  refine ⟨_, rfl, _, rfl, hd, isI x, rfl, ?_⟩
  cases hx : isI x with
  | false => exact q false (fun i e => by rw [e] at hx; cases hx) (fun _ => rfl)
  | true =>
    obtain ⟨i, rfl⟩ := isI_int hx
    refine ⟨_, rfl, _, rfl, _, _, rfl, rfl, _, rfl, ite2 (fun c => ?_) (fun c => ?_)⟩
    · refine ⟨_, rfl, _, _, rfl, rfl, q _ (fun j e => ?_) (fun e => by cases e)⟩
      cases e
      have c' := of_decide_eq_true c
      simp [c']
    · refine q _ (fun j e => ?_) (fun e => by cases e)
      cases e
      have c' := of_decide_eq_false (Bool.eq_false_iff.mpr c)
      simp [c']
/-! ### data: what a value holds -/
inductive Rd (K : PySem.W.Frag) (ok : Addr → Prop) (H : Hp) : Nat → V → PyData → Prop
  | non {n} : Rd K ok H n .non .none
  | bl {n} (b : Bool) : Rd K ok H n (.bl b) (.bool b)
  | int {n} (i : Int) : Rd K ok H n (.int i) (.int i)
  | str {n} (z : Str) (h : z.length ≤ 1000) (h2 : PyData.strOk z = true) : Rd K ok H n (.str z) (.str z)
  | lst {n} {a : Addr} {xs : List V} {ds : List PyData} (h : H a = some (.lst xs)) (ha : ok a) (hl : xs.length = ds.length) (hz : xs.length ≤ 900)
      (all : ∀ (i : Nat) (x : V) (d : PyData), xs[i]? = some x → ds[i]? = some d → Rd K ok H n x d) : Rd K ok H (n + 1) (.ref a) (.list ds)
  | tup {n} {a : Addr} {xs : List V} {ds : List PyData} (h : SqT K H a xs) (ha : ok a) (hl : xs.length = ds.length) (hz : xs.length ≤ 900)
      (all : ∀ (i : Nat) (x : V) (d : PyData), xs[i]? = some x → ds[i]? = some d → Rd K ok H n x d) : Rd K ok H (n + 1) (.ref a) (.tuple ds)
def RdL (K : PySem.W.Frag) (ok : Addr → Prop) (H : Hp) (n : Nat) (xs : List V) (ds : List PyData) : Prop :=
  xs.length = ds.length ∧ ∀ (i : Nat) (x : V) (d : PyData), xs[i]? = some x → ds[i]? = some d → Rd K ok H n x d
section
variable {ok : Addr → Prop} {H H' : Hp} {n : Nat} {x y : V} {d : PyData}
theorem Rd.keep (kl : ∀ a xs, ok a → H a = some (.lst xs) → H' a = some (.lst xs)) (kt : ∀ a xs, ok a → SqT K H a xs → SqT K H' a xs) (h : Rd K ok H n x d) : Rd K ok H' n x d := by
  induction h with
  | non => exact .non
  | bl b => exact .bl b
  | int i => exact .int i
  | str z h h2 => exact .str z h h2
  | lst h1 ha hl hz _ ih => exact .lst (kl _ _ ha h1) ha hl hz ih
  | tup h1 ha hl hz _ ih => exact .tup (kt _ _ ha h1) ha hl hz ih
theorem Rd.ex (e : Ex H H') (h : Rd K ok H n x d) : Rd K ok H' n x d := h.keep (fun _ _ _ => e _ _) (fun _ _ _ => ex_t e)
theorem Rd.but {b : Addr} (k : But b H H') (hb : ∀ a, ok a → a ≠ b) (h : Rd K ok H n x d) : Rd K ok H' n x d :=
  h.keep (fun _ _ ha hs => k _ _ (hb _ ha) hs) (fun _ _ ha hs => k.sqt (hb _ ha) hs)
theorem Rd.of {ok' : Addr → Prop} (w : ∀ a, ok a → ok' a) (h : Rd K ok H n x d) : Rd K ok' H n x d := by
  induction h with
  | non => exact .non
  | bl b => exact .bl b
  | int i => exact .int i
  | str z h h2 => exact .str z h h2
  | lst h1 ha hl hz _ ih => exact .lst h1 (w _ ha) hl hz ih
  | tup h1 ha hl hz _ ih => exact .tup h1 (w _ ha) hl hz ih
theorem Rd.succ (h : Rd K ok H n x d) : Rd K ok H (n + 1) x d := by
  induction h with
  | non => exact .non
  | bl b => exact .bl b
  | int i => exact .int i
  | str z h h2 => exact .str z h h2
  | lst h1 ha hl hz _ ih => exact .lst h1 ha hl hz ih
  | tup h1 ha hl hz _ ih => exact .tup h1 ha hl hz ih
theorem Rd.le {m : Nat} (h : Rd K ok H n x d) (l : n ≤ m) : Rd K ok H m x d := by
  induction l with
  | refl => exact h
  | step _ ih => exact ih.succ
theorem RdL.ex {xs : List V} {ds : List PyData} (e : Ex H H') (h : RdL K ok H n xs ds) : RdL K ok H' n xs ds := ⟨h.1, fun i x d hx hd => (h.2 i x d hx hd).ex e⟩
theorem RdL.but {b : Addr} {xs : List V} {ds : List PyData} (k : But b H H') (hb : ∀ a, ok a → a ≠ b) (h : RdL K ok H n xs ds) : RdL K ok H' n xs ds := ⟨h.1, fun i x d hx hd => (h.2 i x d hx hd).but k hb⟩
theorem Rd.sm (h : Rd K ok H n x d) : ∀ {ok' : Addr → Prop} {y : V}, Rd K ok' H n y d → Sm K H n x y := by
  induction h with
  | non => intro ok' y h2; cases h2; exact .non
  | bl b => intro ok' y h2; cases h2; exact .bl b
  | int i => intro ok' y h2; cases h2; exact .int i
  | str z h h3 => intro ok' y h2; cases h2; exact .str z h
  | lst h1 ha hl hz all ih =>
    intro ok' y h2
    cases h2 with
    | lst h1' ha' hl' hz' all' =>
      refine .lst (SqL.of h1) (SqL.of h1') (by omega) (by omega) fun i x y hx hy => ?_
      have hi := (List.getElem?_eq_some_iff.mp hx).1
      exact ih i x _ hx (List.getElem?_eq_getElem (by omega)) (all' i y _ hy (List.getElem?_eq_getElem (by omega)))
  | tup h1 ha hl hz all ih =>
    intro ok' y h2
    cases h2 with
    | tup h1' ha' hl' hz' all' =>
      refine .tup h1 h1' (by omega) (by omega) fun i x y hx hy => ?_
      have hi := (List.getElem?_eq_some_iff.mp hx).1
      exact ih i x _ hx (List.getElem?_eq_getElem (by omega)) (all' i y _ hy (List.getElem?_eq_getElem (by omega)))
theorem dpAll_of {xs : List V} : ∀ {ds : List PyData}, xs.length = ds.length → (∀ (i : Nat) (x : V) (d : PyData), xs[i]? = some x → ds[i]? = some d → Dp K H x d) → DpAll K H xs ds := by
  induction xs with
  | nil => intro ds hl _; cases ds with
    | nil => exact .nil
    | cons d r => cases hl
  | cons x r ih => intro ds hl h; cases ds with
    | nil => cases hl
    | cons d r2 => exact .cons (h 0 x d rfl rfl) (ih (Nat.succ.inj hl) fun i x d hx hd => h (i + 1) x d hx hd)
theorem Rd.dp (h : Rd K ok H n x d) : Dp K H x d := by
  induction h with
  | non => exact .non
  | bl b => exact .bl b
  | int i => exact .int i
  | str z h h2 => exact .str z
  | lst h1 ha hl hz _ ih => exact .lst (SqL.of h1) (dpAll_of hl ih)
  | tup h1 ha hl hz _ ih => exact .tup h1 (dpAll_of hl ih)
theorem layAll_of : ∀ {ds : List PyData} {n : Nat}, (∀ d ∈ ds, d.canLay0 = true ∧ d.depth ≤ n) → PyData.canLayAll0 ds = true ∧ PyData.depthAll ds ≤ n
  | [], n, _ => by simp [PyData.canLayAll0, PyData.depthAll]
  | d :: r, n, h => by
    have h1 := h d (by simp)
    have h2 := layAll_of (ds := r) (n := n) fun z hz => h z (by simp [hz])
    simp only [PyData.canLayAll0, PyData.depthAll, h1.1, h2.1, Bool.and_self, true_and]
    omega
theorem Rd.lay (h : Rd K ok H n x d) : d.canLay0 = true ∧ d.depth ≤ n := by
  induction h with
  | non => simp [PyData.canLay0, PyData.depth]
  | bl b => simp [PyData.canLay0, PyData.depth]
  | int i => simp [PyData.canLay0, PyData.depth]
  | str z h h2 => simp [PyData.canLay0, PyData.depth, h2]
  | @lst n a xs ds h1 ha hl hz all ih =>
    have := layAll_of (ds := ds) (n := n) fun d hd => by
      obtain ⟨i, hi⟩ := List.mem_iff_getElem?.mp hd
      have hlt := (List.getElem?_eq_some_iff.mp hi).1
      exact ih i _ d (List.getElem?_eq_getElem (by omega)) hi
    simp only [PyData.canLay0, PyData.depth, this.1, true_and]
    omega
  | @tup n a xs ds h1 ha hl hz all ih =>
    have := layAll_of (ds := ds) (n := n) fun d hd => by
      obtain ⟨i, hi⟩ := List.mem_iff_getElem?.mp hd
      have hlt := (List.getElem?_eq_some_iff.mp hi).1
      exact ih i _ d (List.getElem?_eq_getElem (by omega)) hi
    simp only [PyData.canLay0, PyData.depth, this.1, true_and]
    omega
theorem Rd.shaped (h : Rd K ok H n x d) (hn : n ≤ 64) : SeqAt.shaped d = true := by
  have := h.lay
  unfold SeqAt.shaped
  rw [this.1, decide_eq_true (by omega)]
  rfl
theorem Rd.dat (h : Rd K ok H n x d) : Dat K H x := by
  cases h with
  | non => exact ⟨"NoneType", by decide, .base .non, rfl⟩
  | bl b => exact ⟨"bool", by decide, .base (.bl b), rfl⟩
  | int i => exact .int
  | str z h h2 => exact ⟨"str", by decide, .base (.str z), rfl⟩
  | lst h1 => exact ⟨"list", by decide, tyL (SqL.of h1), rfl⟩
  | tup h1 => exact ⟨"tuple", by decide, tyT h1, rfl⟩
end
def fromD (lo : Int) : PyData → Bool
  | .int i => decide (lo ≤ i)
  | _ => false
def betwD (lo hi : Int) : PyData → Bool
  | .int i => decide (lo ≤ i ∧ i ≤ hi)
  | _ => false
def isSeq : PyData → Bool
  | .list _ => true
  | .tuple _ => true
  | _ => false
theorem rd_from {ok : Addr → Prop} {H : Hp} {n : Nat} {x : V} {d : PyData} {lo : Int} {b : Bool} (h : Rd K ok H n x d) (h1 : ∀ i, x = .int i → b = decide (lo ≤ i)) (h2 : isI x = false → b = false) : b = fromD lo d := by
  cases h <;> first | exact h1 _ rfl | exact h2 rfl
theorem rd_betw {ok : Addr → Prop} {H : Hp} {n : Nat} {x : V} {d : PyData} {lo hi : Int} {b : Bool} (h : Rd K ok H n x d) (h1 : ∀ i, x = .int i → b = decide (lo ≤ i ∧ i ≤ hi)) (h2 : isI x = false → b = false) : b = betwD lo hi d := by
  cases h <;> first | exact h1 _ rfl | exact h2 rfl
/-- data, or an empty dict -/
def RdA (K : PySem.W.Frag) (ok : Addr → Prop) (H : Hp) (n : Nat) (x : V) (d : PyData) : Prop := Rd K ok H n x d ∨ ∃ a, x = .ref a ∧ d = .dict [] ∧ ok a ∧ H a = some (.dK [])
section
variable {ok : Addr → Prop} {H H' : Hp} {n : Nat} {x : V} {d : PyData}
theorem RdA.rd (h : RdA K ok H n x d) (s : isSeq d = true) : Rd K ok H n x d := by
  rcases h with h | ⟨a, rfl, rfl, _⟩
  · exact h
  · cases s
theorem RdA.ex (e : Ex H H') (h : RdA K ok H n x d) : RdA K ok H' n x d := by
  rcases h with h | ⟨a, h1, h2, h3, h4⟩
  · exact .inl (h.ex e)
  · exact .inr ⟨a, h1, h2, h3, e _ _ h4⟩
theorem RdA.but {b : Addr} (k : But b H H') (hb : ∀ a, ok a → a ≠ b) (h : RdA K ok H n x d) : RdA K ok H' n x d := by
  rcases h with h | ⟨a, h1, h2, h3, h4⟩
  · exact .inl (h.but k hb)
  · exact .inr ⟨a, h1, h2, h3, k _ _ (hb a h3) h4⟩
theorem RdA.of {ok' : Addr → Prop} (w : ∀ a, ok a → ok' a) (h : RdA K ok H n x d) : RdA K ok' H n x d := by
  rcases h with h | ⟨a, h1, h2, h3, h4⟩
  · exact .inl (h.of w)
  · exact .inr ⟨a, h1, h2, w a h3, h4⟩
theorem RdA.dat (h : RdA K ok H n x d) : Dat K H x := by
  rcases h with h | ⟨a, rfl, rfl, _, h4⟩
  · exact h.dat
  · exact ⟨"dict", by decide, .base (.dK h4), rfl⟩
theorem rda_betw {lo hi : Int} {b : Bool} (h : RdA K ok H n x d) (h1 : ∀ i, x = .int i → b = decide (lo ≤ i ∧ i ≤ hi)) (h2 : isI x = false → b = false) : b = betwD lo hi d := by
  rcases h with h | ⟨a, rfl, rfl, _⟩
  · exact rd_betw h h1 h2
  · exact h2 rfl
theorem RdA.sm {ok' : Addr → Prop} {y : V} (h : RdA K ok H n x d) (h2 : RdA K ok' H n y d) : Sm K H (n + 1) x y := by
  rcases h with h | ⟨a, rfl, rfl, _, h4⟩
  · rcases h2 with h2 | ⟨a, rfl, rfl, _⟩
    · exact (h.sm h2).succ
    · cases h
  · rcases h2 with h2 | ⟨c, rfl, _, _, h5⟩
    · cases h2
    · exact .dct h4 h5
end
def spIsList (K : PySem.W.Frag) : Sp := fun vs H Q _ => ∃ x d n ok, vs = [x] ∧ RdA K ok H n x d ∧ ∀ H', Ex H H' → Q (.bl (isSeq d)) H'
theorem ok_is_list (T : TA1 K mg) : FnOk P w K mg base CX0 1 T.is_list.a T.is_list.fd ["value"] (spIsList K) := by
  refine T.is_list.F.ok sc_is_list (fun vs H Q E h => ?_) (fun cdv A outer s H vs Q E hr h => ?_)
  · obtain ⟨x, d, n, ok, rfl, _⟩ := h; rfl
  obtain ⟨x, d, n, ok, rfl, h, q⟩ := h
  refine ⟨_, (pss_one (ps_ret (pe_callB (kisiT K) (by rfl) T.z_isinstance (by decide +kernel) (pa_cons (pv 0) (pa_cons (pe_tup (pa_cons (pe_bltn (v := .ty "list") rfl T.z_list (by decide +kernel) rfl) (pa_cons (pe_bltn (v := .ty "tuple") rfl T.z_tuple (by decide +kernel) rfl) pa_nil))) pa_nil))))), ?_⟩
  refine ⟨_, rfl, (by show 2 ≤ sizeLine; decide), fun p hp => ?_⟩
  have q1 := q _ (Ex.new (o := .tup [.ty "list", .ty "tuple"]) hp)
  rcases h with h | ⟨a, rfl, rfl, _, hd⟩
  case inr =>
    exact ⟨_, p, [.ty "list", .ty "tuple"], _, [.type "list", .type "tuple"], false, rfl, upd_same, .cons (.ty _) (.cons (.ty _) .nil), .base (.dK ((Ex.new hp) _ _ hd)), rfl, q1⟩
  cases h with
  | non => exact ⟨_, p, [.ty "list", .ty "tuple"], _, [.type "list", .type "tuple"], false, rfl, upd_same, .cons (.ty _) (.cons (.ty _) .nil), .base .non, rfl, q1⟩
  | bl b => exact ⟨_, p, [.ty "list", .ty "tuple"], _, [.type "list", .type "tuple"], false, rfl, upd_same, .cons (.ty _) (.cons (.ty _) .nil), .base (.bl b), rfl, q1⟩
  | int i => exact ⟨_, p, [.ty "list", .ty "tuple"], _, [.type "list", .type "tuple"], false, rfl, upd_same, .cons (.ty _) (.cons (.ty _) .nil), .base (.int i), rfl, q1⟩
  | str z _ _ => exact ⟨_, p, [.ty "list", .ty "tuple"], _, [.type "list", .type "tuple"], false, rfl, upd_same, .cons (.ty _) (.cons (.ty _) .nil), .base (.str z), rfl, q1⟩
  | lst h1 => exact ⟨_, p, [.ty "list", .ty "tuple"], _, [.type "list", .type "tuple"], true, rfl, upd_same, .cons (.ty _) (.cons (.ty _) .nil), tyL (SqL.of ((Ex.new hp) _ _ h1)), rfl, q1⟩
  | tup h1 => exact ⟨_, p, [.ty "list", .ty "tuple"], _, [.type "list", .type "tuple"], true, rfl, upd_same, .cons (.ty _) (.cons (.ty _) .nil), tyT (ex_t (Ex.new hp) h1), rfl, q1⟩
theorem at_get {xs : List V} {k : Int} (h0 : 0 ≤ k) (h : k < (xs.length : Int)) : ∃ v, atI xs k = some v ∧ xs[k.toNat]? = some v := by
  have hk : k.toNat < xs.length := by omega
  refine ⟨xs[k.toNat], ?_, List.getElem?_eq_getElem hk⟩
  exact at_of (by omega) (List.getElem?_eq_getElem hk)
theorem ints_get {ns : List Int} {i : Nat} {v : V} (h : (ns.map V.int)[i]? = some v) : ∃ z, ns[i]? = some z ∧ v = .int z := by
  rw [List.getElem?_map] at h
  cases e : ns[i]? with
  | none => rw [e] at h; cases h
  | some z => rw [e] at h; exact ⟨z, rfl, (Option.some.inj h).symm⟩
theorem cutV_ints (ns : List Int) (lo hi : Option Int) : ∃ ms : List Int, cutV (ns.map V.int) lo hi = ms.map V.int := by
  refine ⟨(ns.drop (HT.sIx (ns.map V.int).length 0 lo)).take (HT.sIx (ns.map V.int).length (ns.map V.int).length hi - HT.sIx (ns.map V.int).length 0 lo), ?_⟩
  unfold cutV
  rw [List.map_take, List.map_drop]
theorem ok_law_cell (T : TA1 K mg) : FnOk P w K mg base CX0 1 T.law_cell.a T.law_cell.fd ["script", "k"] (spCell K) := by
  refine T.law_cell.F.ok sc_law_cell (fun vs H Q E h => ?_) (fun cdv A outer s H vs Q E hr h => ?_)
  · obtain ⟨a, ns, k, rfl, _⟩ := h; rfl
  obtain ⟨a, ns, k, rfl, hS, h0, h1, q⟩ := h
  refine ⟨_, (pss_one (ps_ret (pe_ifExp (pt_cmpR op_lt (pv 1) (pe_callB (klen K) (by rfl) T.z_len (by decide +kernel) (pa_cons (pv 0) pa_nil)) (nomark _)) (pe_ix (kixl K) (pv 0) (pv 1) (fun _ _ => rfl)) (pe_op op_add (pe_op op_mul pe_int (pv 1)) (pe_op op_mod (pe_callTy call_int1 (by rfl) T.z_int (by decide +kernel) (pa_cons (pe_callB (ksum K rfl) (by rfl) T.z_sum (by decide +kernel) (pa_cons (pe_slice (kslL K) (pv 0) po_none (po_some pe_int)) pa_nil)) pa_nil)) pe_int))))), ?_⟩
  refine ⟨_, rfl, _, rfl, _, _, rfl, .inl ⟨_, hS, rfl⟩, _, _, rfl, rfl, _, rfl, ite2 (fun c => ?_) (fun c => ?_)⟩
  · have c' := of_decide_eq_true c
    obtain ⟨v, hv, hg⟩ := at_get h0 c'
    obtain ⟨z, _, rfl⟩ := ints_get hg
    exact ⟨_, rfl, _, rfl, _, _, _, _, rfl, rfl, hS, hv, q _ _ (Ex.refl _)⟩
  · refine ⟨_, rfl, _, _, rfl, rfl, .inl ⟨by decide, by decide⟩, _, rfl, _, rfl, _, _, rfl, hS, fun p hp => ?_⟩
    obtain ⟨ms, em⟩ := cutV_ints ns none (some 1)
    rw [em]
    refine ⟨p, ms, rfl, .inl (SqL.of upd_same), .inl ⟨_, rfl, _, _, rfl, rfl, (show (0 : Int) < 1000033 by decide), _, _, rfl, rfl, q _ _ (Ex.new hp)⟩⟩
theorem ok_law_box (T : TA1 K mg) : FnOk P w K mg base CX0 1 T.law_box.a T.law_box.fd ["great"] spBox := by
  refine T.law_box.F.ok sc_law_box (fun vs H Q E h => ?_) (fun cdv A outer s H vs Q E hr h => ?_)
  · obtain ⟨g, rfl, _⟩ := h; rfl
  obtain ⟨g, rfl, q⟩ := h
  refine ⟨_, (pss_one (ps_ret (pe_lst (pa_cons (pe_callB call_abs (by rfl) T.z_abs (by decide +kernel) (pa_cons (pv 0) pa_nil)) (pa_cons (pe_cmpR op_ge (pe_callB call_abs (by rfl) T.z_abs (by decide +kernel) (pa_cons (pv 0) pa_nil)) (pe_op op_pow pe_int pe_int) (nomark _)) (pa_cons (pe_op op_mod (pe_callTy call_int1 (by rfl) T.z_int (by decide +kernel) (pa_cons (pe_callB call_abs (by rfl) T.z_abs (by decide +kernel) (pa_cons (pv 0) pa_nil)) pa_nil)) pe_int) (pa_cons pe_int pa_nil))))))), ?_⟩
  refine ⟨_, rfl, _, rfl, _, rfl, _, rfl, _, _, rfl, rfl, ⟨by decide, by decide, by decide⟩, _, _, rfl, rfl, _, rfl, _, rfl, .inl ⟨_, rfl, _, _, rfl, rfl, (show (0 : Int) < 2147483629 by decide), (by show 4 ≤ sizeLine; decide), fun p hp => ?_⟩⟩
  refine q p _ hp (Ex.new hp) ⟨_, _, _, _, upd_same, ?_, ?_, ?_, by decide, by decide⟩
  · split <;> omega
  · omega
  · omega
theorem fmod_in {a m : Int} (h : 0 < m) : 0 ≤ a % m ∧ a % m < m := by
  exact ⟨Int.emod_nonneg _ (by omega), Int.emod_lt_of_pos _ h⟩
theorem ok_law_take (T : TA1 K mg) : FnOk P w K mg base CX0 1 T.law_take.a T.law_take.fd ["box", "many"] spTake := by
  refine T.law_take.F.ok sc_law_take (fun vs H Q E h => ?_) (fun cdv A outer s H vs Q E hr h => ?_)
  · obtain ⟨b, m, n, rfl, _⟩ := h; rfl
  obtain ⟨b, m, n, rfl, m0, m1, ⟨d, sd, c, f, hb, d0, s0, s1, c0, c1⟩, q⟩ := h
  have hL := SqL.of (K := K) hb
  refine ⟨_, (pss_cut (ps_if (PW.pt (pw_and (pt_val (pe_ix (kixl K) (pv 0) pe_int (fun _ _ => rfl))) (pw_and1 (pt_cmpR op_gt (pe_ix (kixl K) (pv 0) pe_int (fun _ _ => rfl)) pe_int (nomark _))))) (pss_cons (ps_set (i := 2) sc_law_take.nd rfl (Or.inl rfl) (pe_op op_mod (pe_callTy call_int1 (by rfl) T.z_int (by decide +kernel) (pa_cons (pe_ix (kixl K) (pv 0) pe_int (fun _ _ => rfl)) pa_nil)) (pv 1)))
    (pss_cons (ps_asg (pe_op op_fdiv (pe_ix (kixl K) (pv 0) pe_int (fun _ _ => rfl)) (pv 1)) (pg_sub (pv 0) pe_int set_list))
    (pss_one (ps_ret (pv 2))))) pss_nil)
    (pss_cons (ps_asg (pe_op op_add (pe_ix (kixl K) (pv 0) pe_int (fun _ _ => rfl)) pe_int) (pg_sub (pv 0) pe_int set_list))
    (pss_cons (ps_set (i := 3) sc_law_take.nd rfl (Or.inl rfl) (pe_op op_mod (pe_callTy call_int1 (by rfl) T.z_int (by decide +kernel) (pa_cons (pe_op op_pow (pe_op op_add (pe_op op_add (pe_ix (kixl K) (pv 0) pe_int (fun _ _ => rfl)) (pe_op op_mul pe_int (pe_ix (kixl K) (pv 0) pe_int (fun _ _ => rfl)))) pe_int) pe_int) pa_nil)) pe_int))
    (pss_one (ps_ret (pe_op op_mod (pe_callTy call_int1 (by rfl) T.z_int (by decide +kernel) (pa_cons (pe_op op_fdiv (pe_op op_mod (pe_callTy call_int1 (by rfl) T.z_int (by decide +kernel) (pa_cons (pe_op op_pow (pe_op op_add (pe_op op_mul (pv 3) pe_int) (pe_op op_mul pe_int (pe_ix (kixl K) (pv 0) pe_int (fun _ _ => rfl)))) pe_int) pa_nil)) pe_int) pe_int) pa_nil)) (pv 1))))))), ?_⟩
  have mres : ∀ x : Int, 0 ≤ x % m ∧ x % m < m := fun x => fmod_in m0
  have fm : ∀ {a k : Int}, 0 ≤ a → 0 < k → 0 ≤ a % k ∧ a % k < k := fun _ h => fmod_in h
  refine ⟨fun σ' H' => σ' = [some (.ref b), some (.int m), none, none] ∧ H' = H, ?_, ?_⟩
  · refine ⟨_, rfl, _, _, _, _, rfl, rfl, hL, rfl, f, rfl, ?_⟩
    cases f with
    | false => exact ⟨rfl, rfl⟩
    | true =>
      refine ⟨_, rfl, _, _, _, _, rfl, rfl, hL, rfl, _, _, rfl, rfl, _, rfl, ite2 (fun c => ?_) (fun _ => ⟨rfl, rfl⟩)⟩
      refine ⟨_, rfl, _, _, _, _, rfl, rfl, hL, rfl, .inl ⟨_, rfl, _, rfl, _, _, rfl, rfl, m0, ?_⟩⟩
      refine ⟨_, rfl, _, _, _, _, rfl, rfl, hL, rfl, _, rfl, _, _, rfl, rfl, ⟨by omega, by omega⟩, ?_⟩
      refine ⟨_, rfl, b, _, 0, 0, rfl, rfl, hb, rfl, ?_⟩
      refine ⟨_, rfl, q _ _ (mres _).1 (mres _).2 ⟨_, _, _, _, upd_same, ?_, s0, s1, c0, by omega⟩ But.upd⟩
      exact Int.ediv_nonneg d0 (by omega)
  · rintro σ' H' ⟨rfl, rfl⟩
    refine ⟨_, rfl, _, _, _, _, rfl, rfl, hL, rfl, _, _, rfl, rfl, ?_⟩
    refine ⟨_, rfl, b, _, 3, 3, rfl, rfl, hb, rfl, ?_⟩
    have hb2 : upd H' b (.lst [.int d, .bl f, .int sd, .int (c + 1)]) b = some (.lst [.int d, .bl f, .int sd, .int (c + 1)]) := upd_same
    have hL2 := SqL.of (K := K) hb2
    have r1 := @fmod_in ((sd + 15485863 * (c + 1) + 179424673) ^ (5 : Int).toNat) 2147483647 (by decide)
    refine ⟨_, rfl, _, _, _, _, rfl, rfl, hL2, rfl, ?_⟩
    refine ⟨_, rfl, _, _, _, _, rfl, rfl, hL2, rfl, _, _, rfl, rfl, .inl ⟨by decide, by decide⟩, _, _, rfl, rfl, _, _, rfl, rfl, ?_⟩
    refine ⟨_, _, rfl, rfl, ⟨by decide, by decide, by omega⟩, .inl ⟨_, rfl, _, _, rfl, rfl, (show (0 : Int) < 2147483647 by decide), ?_⟩⟩
    refine ⟨_, rfl, _, _, rfl, rfl, .inr ⟨by decide, by decide⟩, ?_⟩
    refine ⟨_, rfl, _, _, _, _, rfl, rfl, hL2, rfl, _, _, rfl, rfl, .inl ⟨by decide, by decide⟩, _, _, rfl, rfl, ?_⟩
    refine ⟨_, _, rfl, rfl, ⟨by decide, by decide, by omega⟩, .inl ⟨_, rfl, _, _, rfl, rfl, (show (0 : Int) < 2147483587 by decide), ?_⟩⟩
    refine ⟨_, _, rfl, rfl, ⟨by decide, by decide⟩, .inl ⟨_, rfl, _, rfl, _, _, rfl, rfl, m0, ?_⟩⟩
    exact q _ _ (mres _).1 (mres _).2 ⟨_, _, _, _, hb2, d0, s0, s1, by omega, by omega⟩ But.upd
section
variable {X : Cx}
def rLenA (K : PySem.W.Frag) : List V → Hp → VK → Prop := fun xs H Q => rLen K xs H Q ∨ ∃ a kvs, xs = [V.ref a] ∧ H a = some (.dK kvs) ∧ Q (.int (kvs.length : Nat)) H
theorem klenA (K : PySem.W.Frag) (h : X.K = K := by rfl) : CallR X (.builtin "len") (rLenA K) := by
  subst h
  intro pins s σ H vs us Q I r h
  rcases h with h | h
  · exact call_len pins s σ H vs us Q I r h
  · exact call_lenD pins s σ H vs us Q I r h
end
/-! ### the law's own sameness -/
theorem none_left {sp : Sp} {f : Addr} {fd : FuncData} {ps : List Str} (no : ∀ vs H Q E, ¬ sp vs H Q E) : FnOk P w K mg base CX0 0 f fd ps sp :=
  ⟨fun vs H Q E h => absurd h (no vs H Q E), fun A outer s H args us vs Q E _ _ _ _ h => absurd h (no vs H Q E)⟩
theorem isi_at {H : Hp} {x : V} {t u : String} {b : Bool} {Q : VK} (ty : TyX K H x (.type t)) (h : kitB t u = some b) (q : Q (.bl b) H) : rIsi K [x, .ty u] H Q :=
  ⟨x, .ty u, _, _, b, rfl, .ty u, ty, kit_ty h, q⟩
def spS (K : PySem.W.Frag) : Nat → Sp
  | 0 => fun _ _ _ _ => False
  | n + 1 => spSame K n
theorem no_given {n : Nat} {v : Nat → V} : given n (fun _ => false) v = [] := by
  unfold given
  rw [List.filter_eq_nil_iff.mpr (by intro a _; decide)]
  rfl
theorem eq_empty {ta : TE} {σ : L2.St} {H : Hp} {xs : List V} (hx : xs = []) (h : EvL ta σ H xs) : Ev (tOp (rEqD K) ta (tLst tNil)) σ H (.bl true) := by
  subst hx
  exact ev_opLL h (el_lst ea_nil (Nat.zero_le _)) fun p q H1 hp hq _ => rv_val fun H2 e2 Q k =>
    ⟨.list [], .list [], .lst (SqL.of (e2 _ _ hp)) .nil, .lst (SqL.of (e2 _ _ hq)) .nil, rfl, rfl, k⟩
theorem same_step (T : TA1 K mg) (n : Nat) (ih : FnOk P w K mg base CX0 n T.law_same.a T.law_same.fd ["told", "due"] (spS K n)) :
    FnOk P w K mg base CX0 (n + 1) T.law_same.a T.law_same.fd ["told", "due"] (spS K (n + 1)) := by
  refine T.law_same.F.ok sc_law_same (fun vs H Q E h => ?_) (fun cdv A outer s H vs Q E hr h => ?_)
  · obtain ⟨x, y, rfl, _⟩ := h; rfl
  obtain ⟨x, y, rfl, hS, q⟩ := h
  refine ⟨_, (pss_cons (ps_if (PW.pt (pw_or (pt_cmpR op_isN (pv 1) pe_non (nomark _)) (pw_or1 (pt_val (pe_callB (kisi K) (by rfl) T.z_isinstance (by decide +kernel) (pa_cons (pv 1) (pa_cons (pe_bltn (v := .ty "bool") rfl T.z_bool (by decide +kernel) rfl) pa_nil))))))) (pss_one (ps_ret (pe_ifExp (pt_cmpR op_isN (pv 1) pe_non (nomark _)) (pe_cmpR op_isN (pv 0) pe_non (nomark _)) (pe_and (pe_callB (kisi K) (by rfl) T.z_isinstance (by decide +kernel) (pa_cons (pv 0) (pa_cons (pe_bltn (v := .ty "bool") rfl T.z_bool (by decide +kernel) rfl) pa_nil))) (pe_one (pe_cmpR op_eq (pe_cmpR op_is_bl (pv 0) pe_bl (nomark _)) (pe_cmpR op_is_bl (pv 1) pe_bl (nomark _)) (nomark _))))))) pss_nil)
    (pss_cons (ps_if (pt_val (pe_callB (kisi K) (by rfl) T.z_isinstance (by decide +kernel) (pa_cons (pv 1) (pa_cons (pe_bltn (v := .ty "int") rfl T.z_int (by decide +kernel) rfl) pa_nil)))) (pss_one (ps_ret (pe_and (pe_callB (kisi K) (by rfl) T.z_isinstance (by decide +kernel) (pa_cons (pv 0) (pa_cons (pe_bltn (v := .ty "int") rfl T.z_int (by decide +kernel) rfl) pa_nil))) (pe_and (pe_not (pe_callB (kisi K) (by rfl) T.z_isinstance (by decide +kernel) (pa_cons (pv 0) (pa_cons (pe_bltn (v := .ty "bool") rfl T.z_bool (by decide +kernel) rfl) pa_nil)))) (pe_one (pe_cmpR op_eq (pe_op op_sub (pe_callTy call_int1 (by rfl) T.z_int (by decide +kernel) (pa_cons (pv 0) pa_nil)) (pv 1)) pe_int (nomark _))))))) pss_nil)
    (pss_cons (ps_if (pt_val (pe_callB (kisi K) (by rfl) T.z_isinstance (by decide +kernel) (pa_cons (pv 1) (pa_cons (pe_bltn (v := .ty "str") rfl T.z_str (by decide +kernel) rfl) pa_nil)))) (pss_one (ps_ret (pe_and (pe_callB (kisi K) (by rfl) T.z_isinstance (by decide +kernel) (pa_cons (pv 0) (pa_cons (pe_bltn (v := .ty "str") rfl T.z_str (by decide +kernel) rfl) pa_nil))) (pe_and (pe_cmpR op_eq (pe_callB (klen K) (by rfl) T.z_len (by decide +kernel) (pa_cons (pv 0) pa_nil)) (pe_callB (klen K) (by rfl) T.z_len (by decide +kernel) (pa_cons (pv 1) pa_nil)) (nomark _)) (pe_one (pe_cmpR (keqD K hr.units) (pe_lc (own := [("k", 2)]) (g := gName 2) (by rfl) sc_law_same.nd (pi_range1 rfl T.z_range (pa_cons (pe_callB (klen K) (by rfl) T.z_len (by decide +kernel) (pa_cons (pv 1) pa_nil)) pa_nil)) (blkOk_by (own := [("k", 2)]) (N := ["told", "due", "k"]) (sc := defScope s_law_same) (by decide +kernel)) (fun _ _ _ _ _ => (pg_name (i := 2) sc_law_same.nd rfl (Or.inl rfl))) (fun _ _ _ _ _ => (pts_one (pt_cmpR op_ne (pe_slice sl_str (pv 0) (po_some (pv 2)) (po_some (pe_op op_add (pv 2) pe_int))) (pe_ix (kix K) (pv 1) (pv 2) (fun _ _ => rfl)) (nomark _)))) (fun _ _ _ _ _ => (pv 2))) (pe_lst pa_nil) (nomark _))))))) pss_nil)
    (pss_cons (ps_if (PW.pt (pw_or (pt_cmpR op_ne (pe_callB (kisi K) (by rfl) T.z_isinstance (by decide +kernel) (pa_cons (pv 0) (pa_cons (pe_bltn (v := .ty "list") rfl T.z_list (by decide +kernel) rfl) pa_nil))) (pe_callB (kisi K) (by rfl) T.z_isinstance (by decide +kernel) (pa_cons (pv 1) (pa_cons (pe_bltn (v := .ty "list") rfl T.z_list (by decide +kernel) rfl) pa_nil))) (nomark _)) (pw_or1 (pt_cmpR op_ne (pe_callB (kisi K) (by rfl) T.z_isinstance (by decide +kernel) (pa_cons (pv 0) (pa_cons (pe_bltn (v := .ty "tuple") rfl T.z_tuple (by decide +kernel) rfl) pa_nil))) (pe_callB (kisi K) (by rfl) T.z_isinstance (by decide +kernel) (pa_cons (pv 1) (pa_cons (pe_bltn (v := .ty "tuple") rfl T.z_tuple (by decide +kernel) rfl) pa_nil))) (nomark _))))) (pss_one (ps_ret pe_bl)) pss_nil)
    (pss_one (ps_ret (pe_and (pe_cmpR op_eq (pe_callB (klenA K) (by rfl) T.z_len (by decide +kernel) (pa_cons (pv 0) pa_nil)) (pe_callB (klenA K) (by rfl) T.z_len (by decide +kernel) (pa_cons (pv 1) pa_nil)) (nomark _)) (pe_one (pe_cmpR (keqD K hr.units) (pe_lc (own := [("k", 2)]) (g := gName 2) (by rfl) sc_law_same.nd (pi_range1 rfl T.z_range (pa_cons (pe_callB (klenA K) (by rfl) T.z_len (by decide +kernel) (pa_cons (pv 1) pa_nil)) pa_nil)) (blkOk_by (own := [("k", 2)]) (N := ["told", "due", "k"]) (sc := defScope s_law_same) (by decide +kernel)) (fun _ _ _ _ _ => (pg_name (i := 2) sc_law_same.nd rfl (Or.inl rfl))) (fun _ _ _ _ _ => (pts_one (pt_not (pt_val (pe_call (ih) hr rfl T.law_same.m T.law_same.F.kp T.law_same.b .nil pass0 (pa_cons (pe_ix (kix K) (pv 0) (pv 2) (fun _ _ => rfl)) (pa_cons (pe_ix (kix K) (pv 1) (pv 2) (fun _ _ => rfl)) pa_nil))))))) (fun _ _ _ _ _ => (pv 2))) (pe_lst pa_nil) (nomark _)))))))))), ?_⟩
  cases hS with
  | non => exact ⟨_, rfl, rfl, _, rfl, iteT (iteT ⟨_, rfl, rfl, _, rfl, iteT ⟨_, rfl, rfl, q _ (Ex.refl _)⟩⟩)⟩
  | bl b =>
    refine ⟨_, rfl, rfl, _, rfl, iteF ⟨_, rfl, _, _, _, _, true, rfl, .ty _, (.base (.bl b)), kit_ty (by decide +kernel), ⟨_, rfl, iteT ⟨_, rfl, rfl, _, rfl, iteF ?_⟩⟩⟩⟩
    refine ⟨_, rfl, _, _, _, _, true, rfl, .ty _, (.base (.bl b)), kit_ty (by decide +kernel), ⟨_, rfl, iteT ⟨_, rfl, _, _, rfl, rfl, _, rfl, _, _, rfl, rfl, rfl, ?_⟩⟩⟩
    rw [decide_eq_true (rfl : V.bl (decide (b = true)) = V.bl (decide (b = true)))]
    exact q _ (Ex.refl _)
  | int i =>
    refine ⟨_, rfl, rfl, _, rfl, iteF ⟨_, rfl, _, _, _, _, false, rfl, .ty _, (.base (.int i)), kit_ty (by decide +kernel), ⟨_, rfl, iteF ?_⟩⟩⟩
    refine ⟨_, rfl, _, _, _, _, true, rfl, .ty _, (.base (.int i)), kit_ty (by decide +kernel), ⟨_, rfl, iteT ?_⟩⟩
    refine ⟨_, rfl, _, _, _, _, true, rfl, .ty _, (.base (.int i)), kit_ty (by decide +kernel), ⟨_, rfl, iteT ?_⟩⟩
    refine ⟨_, rfl, _, _, _, _, false, rfl, .ty _, (.base (.int i)), kit_ty (by decide +kernel), ⟨_, rfl, _, rfl, iteT ?_⟩⟩
    refine ⟨_, rfl, .inl ⟨_, rfl, _, rfl, _, _, rfl, rfl, rfl, ?_⟩⟩
    show Q (V.bl (decide (V.int (i - i) = V.int 0))) H
    rw [Int.sub_self]
    exact q _ (Ex.refl _)
  | str z hz =>
    have hz' : z.length ≤ sizeLine := Nat.le_trans hz (by decide)
    refine ⟨_, rfl, rfl, _, rfl, iteF ⟨_, rfl, _, _, _, _, false, rfl, .ty _, (.base (.str z)), kit_ty (by decide +kernel), ⟨_, rfl, iteF ?_⟩⟩⟩
    refine ⟨_, rfl, _, _, _, _, false, rfl, .ty _, (.base (.str z)), kit_ty (by decide +kernel), ⟨_, rfl, iteF ?_⟩⟩
    refine ⟨_, rfl, _, _, _, _, true, rfl, .ty _, (.base (.str z)), kit_ty (by decide +kernel), ⟨_, rfl, iteT ?_⟩⟩
    refine ⟨_, rfl, _, _, _, _, true, rfl, .ty _, (.base (.str z)), kit_ty (by decide +kernel), ⟨_, rfl, iteT ?_⟩⟩
    refine ⟨_, rfl, _, z.length, rfl, ⟨hz', rfl⟩, _, rfl, _, z.length, rfl, ⟨hz', rfl⟩, rfl, _, rfl, ?_⟩
    rw [if_pos (decide_eq_true rfl)]
    refine eq_empty (no_given (n := (z.length : Int).toNat) (v := fun _ => V.non)) ?_ H (Ex.refl _) Q (fun H2 e2 => q H2 e2)
    refine el_lcR1 (fun _ => false) (fun _ => V.non) ?_ ⟨by omega, by omega⟩ (fun _ => rfl) ?_ (fun _ _ _ _ hf => nomatch hf)
    · exact fun H1 e Q' k => ⟨_, rfl, _, z.length, rfl, ⟨hz', rfl⟩, k H1 (Ex.refl _)⟩
    · intro i H1 e hi
      have hz2 : i < z.cps.toList.length := by
        have e2 : z.cps.toList.length = z.length := Array.length_toList
        omega
      have hat : atI z.cps.toList (i : Int) = some z.cps.toList[i] := atI_nat (List.getElem?_eq_getElem hz2)
      have hc := cut_one (List.getElem?_eq_getElem hz2)
      intro H2 e2 Q2 k2
      refine ⟨_, rfl, _, rfl, _, rfl, _, rfl, _, _, rfl, rfl, _, rfl, z, rfl, hz', _, rfl, _, rfl, .inr (.inr ⟨z, _, _, rfl, rfl, hz', hat, rfl, _, rfl, ?_⟩)⟩
      rw [hc, decide_eq_true rfl]
      exact k2 H2 (Ex.refl _)
  | @lst n a b xs ys h1 h2 hl hl1 all =>
    refine ⟨_, rfl, rfl, _, rfl, iteF ⟨_, rfl, _, _, _, _, false, rfl, .ty _, (tyL h2), kit_ty (by decide +kernel), ⟨_, rfl, iteF ?_⟩⟩⟩
    refine ⟨_, rfl, _, _, _, _, false, rfl, .ty _, (tyL h2), kit_ty (by decide +kernel), ⟨_, rfl, iteF ?_⟩⟩
    refine ⟨_, rfl, _, _, _, _, false, rfl, .ty _, (tyL h2), kit_ty (by decide +kernel), ⟨_, rfl, iteF ?_⟩⟩
    refine ⟨_, rfl, _, _, _, _, true, rfl, .ty _, (tyL h1), kit_ty (by decide +kernel), ⟨_, rfl, _, _, _, _, true, rfl, .ty _, (tyL h2), kit_ty (by decide +kernel), ⟨rfl, _, rfl, iteF ?_⟩⟩⟩
    refine ⟨_, rfl, _, _, _, _, false, rfl, .ty _, (tyL h1), kit_ty (by decide +kernel), ⟨_, rfl, _, _, _, _, false, rfl, .ty _, (tyL h2), kit_ty (by decide +kernel), ⟨rfl, _, rfl, iteF ?_⟩⟩⟩
    refine ⟨_, rfl, .inl ⟨_, xs.length, rfl, .inl ⟨_, h1, rfl⟩, _, rfl, .inl ⟨_, ys.length, rfl, .inl ⟨_, h2, rfl⟩, rfl, _, rfl, ?_⟩⟩⟩
    rw [if_pos (decide_eq_true (by rw [hl]))]
    refine eq_empty (no_given (n := (ys.length : Int).toNat) (v := fun _ => V.non)) ?_ H (Ex.refl _) Q (fun H2 e2 => q H2 e2)
    refine el_lcR1 (fun _ => false) (fun _ => V.non) ?_ ⟨by omega, by omega⟩ (fun _ => rfl) ?_ (fun _ _ _ _ hf => nomatch hf)
    · exact fun H1 e Q' k => ⟨_, rfl, .inl ⟨_, ys.length, rfl, .inl ⟨_, ex_l e h2, rfl⟩, k H1 (Ex.refl _)⟩⟩
    · intro i H1 e hi H2 e2 Q2 k2
      have hy : ys[i]? = some ys[i] := List.getElem?_eq_getElem (by omega)
      have hx : xs[i]? = some xs[i] := List.getElem?_eq_getElem (by omega)
      refine ⟨_, rfl, _, rfl, .inl ⟨_, _, _, _, rfl, rfl, ex_l (e.trans e2) h1, atI_nat hx, _, rfl, _, rfl, .inl ⟨_, _, _, _, rfl, rfl, ex_l (e.trans e2) h2, atI_nat hy, ?_⟩⟩⟩
      exact ⟨_, _, rfl, (all i _ _ hx hy).ex (e.trans e2), fun H3 e3 => ⟨true, rfl, k2 H3 e3⟩⟩
  | @tup n a b xs ys h1 h2 hl hl1 all =>
    refine ⟨_, rfl, rfl, _, rfl, iteF ⟨_, rfl, _, _, _, _, false, rfl, .ty _, (tyT h2), kit_ty (by decide +kernel), ⟨_, rfl, iteF ?_⟩⟩⟩
    refine ⟨_, rfl, _, _, _, _, false, rfl, .ty _, (tyT h2), kit_ty (by decide +kernel), ⟨_, rfl, iteF ?_⟩⟩
    refine ⟨_, rfl, _, _, _, _, false, rfl, .ty _, (tyT h2), kit_ty (by decide +kernel), ⟨_, rfl, iteF ?_⟩⟩
    refine ⟨_, rfl, _, _, _, _, false, rfl, .ty _, (tyT h1), kit_ty (by decide +kernel), ⟨_, rfl, _, _, _, _, false, rfl, .ty _, (tyT h2), kit_ty (by decide +kernel), ⟨rfl, _, rfl, iteF ?_⟩⟩⟩
    refine ⟨_, rfl, _, _, _, _, true, rfl, .ty _, (tyT h1), kit_ty (by decide +kernel), ⟨_, rfl, _, _, _, _, true, rfl, .ty _, (tyT h2), kit_ty (by decide +kernel), ⟨rfl, _, rfl, iteF ?_⟩⟩⟩
    refine ⟨_, rfl, .inl ⟨_, xs.length, rfl, .inr ⟨_, h1, rfl⟩, _, rfl, .inl ⟨_, ys.length, rfl, .inr ⟨_, h2, rfl⟩, rfl, _, rfl, ?_⟩⟩⟩
    rw [if_pos (decide_eq_true (by rw [hl]))]
    refine eq_empty (no_given (n := (ys.length : Int).toNat) (v := fun _ => V.non)) ?_ H (Ex.refl _) Q (fun H2 e2 => q H2 e2)
    refine el_lcR1 (fun _ => false) (fun _ => V.non) ?_ ⟨by omega, by omega⟩ (fun _ => rfl) ?_ (fun _ _ _ _ hf => nomatch hf)
    · exact fun H1 e Q' k => ⟨_, rfl, .inl ⟨_, ys.length, rfl, .inr ⟨_, ex_t e h2, rfl⟩, k H1 (Ex.refl _)⟩⟩
    · intro i H1 e hi H2 e2 Q2 k2
      have hy : ys[i]? = some ys[i] := List.getElem?_eq_getElem (by omega)
      have hx : xs[i]? = some xs[i] := List.getElem?_eq_getElem (by omega)
      refine ⟨_, rfl, _, rfl, .inr (.inl ⟨_, _, _, _, rfl, rfl, ex_t (e.trans e2) h1, atI_nat hx, _, rfl, _, rfl, .inr (.inl ⟨_, _, _, _, rfl, rfl, ex_t (e.trans e2) h2, atI_nat hy, ?_⟩)⟩)⟩
      exact ⟨_, _, rfl, (all i _ _ hx hy).ex (e.trans e2), fun H3 e3 => ⟨true, rfl, k2 H3 e3⟩⟩
  | @dct n a b h1 h2 =>
    have t1 : TyX K H (.ref a) (.type "dict") := .base (.dK h1)
    have t2 : TyX K H (.ref b) (.type "dict") := .base (.dK h2)
    refine ⟨_, rfl, rfl, _, rfl, iteF ⟨_, rfl, _, _, _, _, false, rfl, .ty _, t2, kit_ty (by decide +kernel), ⟨_, rfl, iteF ?_⟩⟩⟩
    refine ⟨_, rfl, _, _, _, _, false, rfl, .ty _, t2, kit_ty (by decide +kernel), ⟨_, rfl, iteF ?_⟩⟩
    refine ⟨_, rfl, _, _, _, _, false, rfl, .ty _, t2, kit_ty (by decide +kernel), ⟨_, rfl, iteF ?_⟩⟩
    refine ⟨_, rfl, _, _, _, _, false, rfl, .ty _, t1, kit_ty (by decide +kernel), ⟨_, rfl, _, _, _, _, false, rfl, .ty _, t2, kit_ty (by decide +kernel), ⟨rfl, _, rfl, iteF ?_⟩⟩⟩
    refine ⟨_, rfl, _, _, _, _, false, rfl, .ty _, t1, kit_ty (by decide +kernel), ⟨_, rfl, _, _, _, _, false, rfl, .ty _, t2, kit_ty (by decide +kernel), ⟨rfl, _, rfl, iteF ?_⟩⟩⟩
    refine ⟨_, rfl, .inr ⟨a, [], rfl, h1, _, rfl, .inr ⟨b, [], rfl, h2, rfl, _, rfl, ?_⟩⟩⟩
    rw [if_pos (decide_eq_true rfl)]
    refine eq_empty (no_given (n := (0 : Int).toNat) (v := fun _ => V.non)) ?_ H (Ex.refl _) Q (fun H2 e2 => q H2 e2)
    refine el_lcR1 (n := 0) (fun _ => false) (fun _ => V.non) ?_ ⟨by omega, by omega⟩ (fun _ => rfl) ?_ (fun _ _ _ _ hf => nomatch hf)
    · exact fun H1 e Q' k => ⟨_, rfl, .inr ⟨b, [], rfl, e _ _ h2, k H1 (Ex.refl _)⟩⟩
    · intro i H1 e hi
      omega
theorem ok_same (T : TA1 K mg) : ∀ n, FnOk P w K mg base CX0 n T.law_same.a T.law_same.fd ["told", "due"] (spS K n)
  | 0 => none_left fun _ _ _ _ h => h
  | n + 1 => same_step T n (ok_same T n)
theorem ok_law_same (T : TA1 K mg) : FnOk P w K mg base CX0 9 T.law_same.a T.law_same.fd ["told", "due"] (spSame K 8) := ok_same T 9
end
end L2.U


set_option Elab.async false
set_option linter.all false
set_option maxRecDepth 100000
set_option maxHeartbeats 4000000
namespace L2.U
open PySem PySem.Spec PyProof.Rows Evl
abbrev s_many_rounds : Stmt := top 21
theorem sc_many_rounds : FnScope ["count", "sizes"] ["count", "sizes"] (defScope s_many_rounds) := ⟨rfl, rfl, rfl, by decide +kernel, rfl, by decide +kernel, by decide +kernel⟩
abbrev s_rounds_of : Stmt := top 22
theorem sc_rounds_of : FnScope ["rank", "kinds", "sizes"] ["rank", "kinds", "sizes"] (defScope s_rounds_of) := ⟨rfl, rfl, rfl, by decide +kernel, rfl, by decide +kernel, by decide +kernel⟩
abbrev s_rank_of : Stmt := top 23
theorem sc_rank_of : FnScope ["rounds", "kinds"] ["rounds", "kinds"] (defScope s_rank_of) := ⟨rfl, rfl, rfl, by decide +kernel, rfl, by decide +kernel, by decide +kernel⟩
abbrev s_many_raised : Stmt := top 24
theorem sc_many_raised : FnScope ["count", "sizes"] ["count", "sizes"] (defScope s_many_raised) := ⟨rfl, rfl, rfl, by decide +kernel, rfl, by decide +kernel, by decide +kernel⟩
abbrev s_raised_of : Stmt := top 25
theorem sc_raised_of : FnScope ["rank", "wires", "sizes"] ["rank", "wires", "sizes"] (defScope s_raised_of) := ⟨rfl, rfl, rfl, by decide +kernel, rfl, by decide +kernel, by decide +kernel⟩
abbrev s_raised_rank : Stmt := top 26
theorem sc_raised_rank : FnScope ["rounds", "wires"] ["rounds", "wires"] (defScope s_raised_rank) := ⟨rfl, rfl, rfl, by decide +kernel, rfl, by decide +kernel, by decide +kernel⟩
abbrev s_answers_of : Stmt := top 27
theorem sc_answers_of : FnScope ["rounds", "wires", "answers", "left", "chosen"] ["rounds", "wires"] (defScope s_answers_of) := ⟨rfl, rfl, rfl, by decide +kernel, rfl, by decide +kernel, by decide +kernel⟩
abbrev s_many : Stmt := top 28
theorem sc_many : FnScope ["count", "sizes", "gap", "result", "left", "size"] ["count", "sizes", "gap"] (defScope s_many) := ⟨rfl, rfl, rfl, by decide +kernel, rfl, by decide +kernel, by decide +kernel⟩
abbrev s_rounds_at : Stmt := top 29
theorem sc_rounds_at : FnScope ["rank", "kinds", "sizes", "gap", "rounds", "left", "at", "size", "further", "chosen"] ["rank", "kinds", "sizes", "gap"] (defScope s_rounds_at) := ⟨rfl, rfl, rfl, by decide +kernel, rfl, by decide +kernel, by decide +kernel⟩
abbrev s_rank_at : Stmt := top 30
theorem sc_rank_at : FnScope ["rounds", "kinds", "gap", "rank", "left", "at", "chosen"] ["rounds", "kinds", "gap"] (defScope s_rank_at) := ⟨rfl, rfl, rfl, by decide +kernel, rfl, by decide +kernel, by decide +kernel⟩
abbrev s_many_chosen : Stmt := top 31
theorem sc_many_chosen : FnScope ["kinds", "chosen"] ["kinds", "chosen"] (defScope s_many_chosen) := ⟨rfl, rfl, rfl, by decide +kernel, rfl, by decide +kernel, by decide +kernel⟩
abbrev s_behind : Stmt := top 32
theorem sc_behind : FnScope ["kinds", "chosen", "gap", "kind"] ["kinds", "chosen", "gap"] (defScope s_behind) := ⟨rfl, rfl, rfl, by decide +kernel, rfl, by decide +kernel, by decide +kernel⟩
abbrev s_chosen_at : Stmt := top 33
theorem sc_chosen_at : FnScope ["rank", "kinds", "size", "chosen", "at", "kind", "with_kind"] ["rank", "kinds", "size"] (defScope s_chosen_at) := ⟨rfl, rfl, rfl, by decide +kernel, rfl, by decide +kernel, by decide +kernel⟩
abbrev s_chosen_rank : Stmt := top 34
theorem sc_chosen_rank : FnScope ["chosen", "kinds", "rank", "found", "at", "kind"] ["chosen", "kinds"] (defScope s_chosen_rank) := ⟨rfl, rfl, rfl, by decide +kernel, rfl, by decide +kernel, by decide +kernel⟩
abbrev s_check_count : Stmt := top 35
theorem sc_check_count : FnScope ["count"] ["count"] (defScope s_check_count) := ⟨rfl, rfl, rfl, by decide +kernel, rfl, by decide +kernel, by decide +kernel⟩
abbrev s_check_kinds : Stmt := top 36
theorem sc_check_kinds : FnScope ["kinds"] ["kinds"] (defScope s_check_kinds) := ⟨rfl, rfl, rfl, by decide +kernel, rfl, by decide +kernel, by decide +kernel⟩
abbrev s_check_sizes : Stmt := top 37
theorem sc_check_sizes : FnScope ["sizes"] ["sizes"] (defScope s_check_sizes) := ⟨rfl, rfl, rfl, by decide +kernel, rfl, by decide +kernel, by decide +kernel⟩
abbrev s_check_rank : Stmt := top 38
theorem sc_check_rank : FnScope ["rank", "kinds", "sizes", "gap"] ["rank", "kinds", "sizes", "gap"] (defScope s_check_rank) := ⟨rfl, rfl, rfl, by decide +kernel, rfl, by decide +kernel, by decide +kernel⟩
abbrev s_check_rounds : Stmt := top 39
theorem sc_check_rounds : FnScope ["rounds", "kinds", "gap"] ["rounds", "kinds", "gap"] (defScope s_check_rounds) := ⟨rfl, rfl, rfl, by decide +kernel, rfl, by decide +kernel, by decide +kernel⟩
abbrev s_are_rounds : Stmt := top 40
theorem sc_are_rounds : FnScope ["value", "kinds", "gap", "left", "chosen"] ["value", "kinds", "gap"] (defScope s_are_rounds) := ⟨rfl, rfl, rfl, by decide +kernel, rfl, by decide +kernel, by decide +kernel⟩
abbrev s_is_chosen : Stmt := top 41
theorem sc_is_chosen : FnScope ["value", "kinds", "kind"] ["value", "kinds"] (defScope s_is_chosen) := ⟨rfl, rfl, rfl, by decide +kernel, rfl, by decide +kernel, by decide +kernel⟩
abbrev s_is_ascending : Stmt := top 8
theorem sc_is_ascending : FnScope ["numbers", "at"] ["numbers"] (defScope s_is_ascending) := ⟨rfl, rfl, rfl, by decide +kernel, rfl, by decide +kernel, by decide +kernel⟩
abbrev s_are_between : Stmt := top 6
theorem sc_are_between : FnScope ["values", "low", "high", "value"] ["values", "low", "high"] (defScope s_are_between) := ⟨rfl, rfl, rfl, by decide +kernel, rfl, by decide +kernel, by decide +kernel⟩
abbrev s_init_InvalidNumber : Stmt := inClass (top 11) 0
theorem sc_init_InvalidNumber : FnScope ["self", "given"] ["self", "given"] (defScope s_init_InvalidNumber) := ⟨rfl, rfl, rfl, by decide +kernel, rfl, by decide +kernel, by decide +kernel⟩
abbrev s_init_InvalidKinds : Stmt := inClass (top 12) 0
theorem sc_init_InvalidKinds : FnScope ["self", "given"] ["self", "given"] (defScope s_init_InvalidKinds) := ⟨rfl, rfl, rfl, by decide +kernel, rfl, by decide +kernel, by decide +kernel⟩
abbrev s_init_InvalidSizes : Stmt := inClass (top 13) 0
theorem sc_init_InvalidSizes : FnScope ["self", "given"] ["self", "given"] (defScope s_init_InvalidSizes) := ⟨rfl, rfl, rfl, by decide +kernel, rfl, by decide +kernel, by decide +kernel⟩
abbrev s_init_InvalidRank : Stmt := inClass (top 14) 0
theorem sc_init_InvalidRank : FnScope ["self", "given"] ["self", "given"] (defScope s_init_InvalidRank) := ⟨rfl, rfl, rfl, by decide +kernel, rfl, by decide +kernel, by decide +kernel⟩
abbrev s_init_InvalidRounds : Stmt := inClass (top 15) 0
theorem sc_init_InvalidRounds : FnScope ["self", "given"] ["self", "given"] (defScope s_init_InvalidRounds) := ⟨rfl, rfl, rfl, by decide +kernel, rfl, by decide +kernel, by decide +kernel⟩
structure TA2 (K : PySem.W.Frag) (mg : Str → Option Value) extends TA1 K mg where
  many_rounds : DefAt K mg "many_rounds" s_many_rounds ["count", "sizes"]
  rounds_of : DefAt K mg "rounds_of" s_rounds_of ["rank", "kinds", "sizes"]
  rank_of : DefAt K mg "rank_of" s_rank_of ["rounds", "kinds"]
  many_raised : DefAt K mg "many_raised" s_many_raised ["count", "sizes"]
  raised_of : DefAt K mg "raised_of" s_raised_of ["rank", "wires", "sizes"]
  raised_rank : DefAt K mg "raised_rank" s_raised_rank ["rounds", "wires"]
  answers_of : DefAt K mg "answers_of" s_answers_of ["rounds", "wires"]
  many : DefAt K mg "_many" s_many ["count", "sizes", "gap"]
  rounds_at : DefAt K mg "rounds_at" s_rounds_at ["rank", "kinds", "sizes", "gap"]
  rank_at : DefAt K mg "rank_at" s_rank_at ["rounds", "kinds", "gap"]
  many_chosen : DefAt K mg "_many_chosen" s_many_chosen ["kinds", "chosen"]
  behind : DefAt K mg "behind" s_behind ["kinds", "chosen", "gap"]
  chosen_at : DefAt K mg "_chosen_at" s_chosen_at ["rank", "kinds", "size"]
  chosen_rank : DefAt K mg "_chosen_rank" s_chosen_rank ["chosen", "kinds"]
  check_count : DefAt K mg "_check_count" s_check_count ["count"]
  check_kinds : DefAt K mg "_check_kinds" s_check_kinds ["kinds"]
  check_sizes : DefAt K mg "_check_sizes" s_check_sizes ["sizes"]
  check_rank : DefAt K mg "_check_rank" s_check_rank ["rank", "kinds", "sizes", "gap"]
  check_rounds : DefAt K mg "_check_rounds" s_check_rounds ["rounds", "kinds", "gap"]
  are_rounds : DefAt K mg "_are_rounds" s_are_rounds ["value", "kinds", "gap"]
  is_chosen : DefAt K mg "_is_chosen" s_is_chosen ["value", "kinds"]
  is_ascending : DefAt K mg "is_ascending" s_is_ascending ["numbers"]
  are_between : DefAt K mg "are_between" s_are_between ["values", "low", "high"]
  InvalidNumber : ErrAt K mg "InvalidNumber" "InvalidNumber.__init__" s_init_InvalidNumber "given"
  InvalidKinds : ErrAt K mg "InvalidKinds" "InvalidKinds.__init__" s_init_InvalidKinds "given"
  InvalidSizes : ErrAt K mg "InvalidSizes" "InvalidSizes.__init__" s_init_InvalidSizes "given"
  InvalidRank : ErrAt K mg "InvalidRank" "InvalidRank.__init__" s_init_InvalidRank "given"
  InvalidRounds : ErrAt K mg "InvalidRounds" "InvalidRounds.__init__" s_init_InvalidRounds "given"
  t_MOST_KINDS : Tok
  c_MOST_KINDS : mg "MOST_KINDS" = some (.int 16 t_MOST_KINDS)
  t_LAST_KIND : Tok
  c_LAST_KIND : mg "LAST_KIND" = some (.int 64 t_LAST_KIND)
  t_ON_LETTERS : Tok
  c_ON_LETTERS : mg "ON_LETTERS" = some (.int 0 t_ON_LETTERS)
  t_ON_WIRES : Tok
  c_ON_WIRES : mg "ON_WIRES" = some (.int 1 t_ON_WIRES)
  c_comb : mg "comb" = some (.builtin "math.comb")
  z_enumerate : mg "enumerate" = none
section
variable {P : Program} {w : World} {K : PySem.W.Frag} {mg : Str → Option Value} {base : Heap}
theorem ok_init_InvalidNumber (T : ErrAt K mg "InvalidNumber" "InvalidNumber.__init__" s_init_InvalidNumber "given") : FnOk P w K mg base CX0 1 T.fI T.fd ["self", "given"] (spInit T.C "given") := by
  refine T.F.ok sc_init_InvalidNumber (fun vs H Q E h => ?_) (fun cdv A outer s H vs Q E hr h => ?_)
  · obtain ⟨a, y, rfl, _⟩ := h; rfl
  obtain ⟨a, y, rfl, ha, q⟩ := h
  exact ⟨_, pss_one (ps_ost (pv 0) (pv 1)), _, rfl, _, rfl, a, T.C, rfl, T.T, T.nf, .inl ⟨ha, fun d hd nd => q d hd nd⟩⟩
theorem ok_init_InvalidKinds (T : ErrAt K mg "InvalidKinds" "InvalidKinds.__init__" s_init_InvalidKinds "given") : FnOk P w K mg base CX0 1 T.fI T.fd ["self", "given"] (spInit T.C "given") := by
  refine T.F.ok sc_init_InvalidKinds (fun vs H Q E h => ?_) (fun cdv A outer s H vs Q E hr h => ?_)
  · obtain ⟨a, y, rfl, _⟩ := h; rfl
  obtain ⟨a, y, rfl, ha, q⟩ := h
  exact ⟨_, pss_one (ps_ost (pv 0) (pv 1)), _, rfl, _, rfl, a, T.C, rfl, T.T, T.nf, .inl ⟨ha, fun d hd nd => q d hd nd⟩⟩
theorem ok_init_InvalidSizes (T : ErrAt K mg "InvalidSizes" "InvalidSizes.__init__" s_init_InvalidSizes "given") : FnOk P w K mg base CX0 1 T.fI T.fd ["self", "given"] (spInit T.C "given") := by
  refine T.F.ok sc_init_InvalidSizes (fun vs H Q E h => ?_) (fun cdv A outer s H vs Q E hr h => ?_)
  · obtain ⟨a, y, rfl, _⟩ := h; rfl
  obtain ⟨a, y, rfl, ha, q⟩ := h
  exact ⟨_, pss_one (ps_ost (pv 0) (pv 1)), _, rfl, _, rfl, a, T.C, rfl, T.T, T.nf, .inl ⟨ha, fun d hd nd => q d hd nd⟩⟩
theorem ok_init_InvalidRank (T : ErrAt K mg "InvalidRank" "InvalidRank.__init__" s_init_InvalidRank "given") : FnOk P w K mg base CX0 1 T.fI T.fd ["self", "given"] (spInit T.C "given") := by
  refine T.F.ok sc_init_InvalidRank (fun vs H Q E h => ?_) (fun cdv A outer s H vs Q E hr h => ?_)
  · obtain ⟨a, y, rfl, _⟩ := h; rfl
  obtain ⟨a, y, rfl, ha, q⟩ := h
  exact ⟨_, pss_one (ps_ost (pv 0) (pv 1)), _, rfl, _, rfl, a, T.C, rfl, T.T, T.nf, .inl ⟨ha, fun d hd nd => q d hd nd⟩⟩
theorem ok_init_InvalidRounds (T : ErrAt K mg "InvalidRounds" "InvalidRounds.__init__" s_init_InvalidRounds "given") : FnOk P w K mg base CX0 1 T.fI T.fd ["self", "given"] (spInit T.C "given") := by
  refine T.F.ok sc_init_InvalidRounds (fun vs H Q E h => ?_) (fun cdv A outer s H vs Q E hr h => ?_)
  · obtain ⟨a, y, rfl, _⟩ := h; rfl
  obtain ⟨a, y, rfl, ha, q⟩ := h
  exact ⟨_, pss_one (ps_ost (pv 0) (pv 1)), _, rfl, _, rfl, a, T.C, rfl, T.T, T.nf, .inl ⟨ha, fun d hd nd => q d hd nd⟩⟩
/-- a check of any data: it lets what is right, else raises the error of C with the very value -/
def spChkD (K : PySem.W.Frag) (C : Addr) (okD : PyData → Bool) : Sp := fun vs H Q E => ∃ x d n ok, vs = [x] ∧ RdA K ok H n x d ∧ (okD d = true → ∀ H', Ex H H' → Q .non H') ∧
  (okD d = false → ∀ e H', Ex H H' → H' e = some (.xd [("given", x)]) → E (.ref C) (some e) H')
theorem betw_int {lo hi : Int} {ok : Addr → Prop} {H : Hp} {n : Nat} {x : V} {d : PyData} (h : Rd K ok H n x d) (c : betwD lo hi d = true) : ∃ i, x = .int i ∧ d = .int i ∧ lo ≤ i ∧ i ≤ hi := by
  cases h with
  | int i => exact ⟨i, rfl, rfl, of_decide_eq_true c⟩
  | non => cases c
  | bl _ => cases c
  | str _ _ _ => cases c
  | lst _ _ _ _ _ => cases c
  | tup _ _ _ _ _ => cases c
theorem given_all {n : Nat} {v : Nat → V} : given n (fun _ => true) v = (List.range n).map v := by
  unfold given
  rw [List.filter_eq_self.mpr (by intro a _; rfl)]
theorem el_lcT {σ : L2.St} {H : Hp} {a : Addr} {xs : List V} {tl te : TE} {t : TT} {j : Nat} {vs : List Nat} (f : Nat → Bool) (v : Nat → V) (h : Ev tl σ H (.ref a)) (hx : SqT K H a xs) (hz : xs.length ≤ 40000)
    (hw : ∀ x, wipe ((wipe σ vs).set j (some x)) vs = wipe σ vs) (ht : ∀ (i : Nat) (x : V) H1, Ex H H1 → xs[i]? = some x → EvT t ((wipe σ vs).set j (some x)) H1 (f i))
    (he : ∀ (i : Nat) (x : V) H1, Ex H H1 → xs[i]? = some x → f i = true → Ev te ((wipe σ vs).set j (some x)) H1 (v i)) : EvL (tLc (iTup K tl) (gName j) t te vs) σ H (given xs.length f v) := by
  intro H0 e Q q
  refine h H0 e _ fun H1 e1 => ?_
  have e01 := e.trans e1
  refine ⟨a, rfl, ⟨xs, ex_t e01 hx⟩, fun Dl hD => lc_tup (xs := xs) (Cw H1 f v Dl) ⟨hD, Ex.new hD, upd_same⟩ (fun i H' _ p => ex_t (e01.trans p.2.1) hx) ?_ ?_⟩
  · intro i x H' hi p
    have hlt := (List.getElem?_eq_some_iff.mp hi).1
    exact ⟨hw x, cw_turn p (by omega) (ht i x H1 e01 hi) (fun hf => he i x H1 e01 hi hf)⟩
  · exact fun H' p => q Dl H' (fresh_back e1 p.1) (e1.trans p.2.1) p.2.2
theorem el_lcL {σ : L2.St} {H : Hp} {a : Addr} {xs : List V} {tl te : TE} {t : TT} {j : Nat} {vs : List Nat} (f : Nat → Bool) (v : Nat → V) (h : Ev tl σ H (.ref a)) (hx : SqL K H a xs) (hz : xs.length ≤ 40000)
    (hw : ∀ x, wipe ((wipe σ vs).set j (some x)) vs = wipe σ vs) (ht : ∀ (i : Nat) (x : V) H1, Ex H H1 → xs[i]? = some x → EvT t ((wipe σ vs).set j (some x)) H1 (f i))
    (he : ∀ (i : Nat) (x : V) H1, Ex H H1 → xs[i]? = some x → f i = true → Ev te ((wipe σ vs).set j (some x)) H1 (v i)) : EvL (tLc (iList K tl) (gName j) t te vs) σ H (given xs.length f v) := by
  intro H0 e Q q
  refine h H0 e _ fun H1 e1 => ?_
  have e01 := e.trans e1
  refine ⟨a, rfl, ⟨xs, ex_l e01 hx⟩, fun Dl hD => lc_list (xs := xs) (Cw H1 f v Dl) ⟨hD, Ex.new hD, upd_same⟩ (fun i H' _ p => ex_l (e01.trans p.2.1) hx) ?_ ?_⟩
  · intro i x H' hi p
    have hlt := (List.getElem?_eq_some_iff.mp hi).1
    exact ⟨hw x, cw_turn p (by omega) (ht i x H1 e01 hi) (fun hf => he i x H1 e01 hi hf)⟩
  · exact fun H' p => q Dl H' (fresh_back e1 p.1) (e1.trans p.2.1) p.2.2
theorem el_lcS {σ : L2.St} {H : Hp} {a : Addr} {xs : List V} {tl te : TE} {t : TT} {j : Nat} {vs : List Nat} (f : Nat → Bool) (v : Nat → V) (h : Ev tl σ H (.ref a)) (hx : SqL K H a xs ∨ SqT K H a xs) (hz : xs.length ≤ 40000)
    (hw : ∀ x, wipe ((wipe σ vs).set j (some x)) vs = wipe σ vs) (ht : ∀ (i : Nat) (x : V) H1, Ex H H1 → xs[i]? = some x → EvT t ((wipe σ vs).set j (some x)) H1 (f i))
    (he : ∀ (i : Nat) (x : V) H1, Ex H H1 → xs[i]? = some x → f i = true → Ev te ((wipe σ vs).set j (some x)) H1 (v i)) : EvL (tLc (iSeq K tl) (gName j) t te vs) σ H (given xs.length f v) := by
  intro H0 e Q q
  rcases hx with hx | hx
  · exact .inl (el_lcL f v h hx hz hw ht he H0 e Q q)
  · exact .inr (el_lcT f v h hx hz hw ht he H0 e Q q)
/-! ### all of a list or tuple are ints from lo on -/
def itemsD : PyData → List PyData
  | .list ds => ds
  | .tuple ds => ds
  | _ => []
/-- an address of a list or a tuple that holds data -/
theorem rd_seq {ok : Addr → Prop} {H : Hp} {n : Nat} {x : V} {d : PyData} (h : Rd K ok H n x d) (s : isSeq d = true) : ∃ a xs, x = .ref a ∧ (SqL K H a xs ∧ d = .list (itemsD d) ∨ SqT K H a xs ∧ d = .tuple (itemsD d)) ∧ xs.length = (itemsD d).length ∧ xs.length ≤ 1000 ∧
    ∀ (i : Nat) (x : V) (e : PyData), xs[i]? = some x → (itemsD d)[i]? = some e → Rd K ok H (n - 1) x e := by
  cases h with
  | lst h ha hl hz all => exact ⟨_, _, rfl, .inl ⟨SqL.of h, rfl⟩, hl, by omega, all⟩
  | tup h ha hl hz all => exact ⟨_, _, rfl, .inr ⟨h, rfl⟩, hl, by omega, all⟩
  | non => cases s
  | bl _ => cases s
  | int _ => cases s
  | str _ _ _ => cases s
def spAreFrom (K : PySem.W.Frag) : Sp := fun vs H Q _ => ∃ x d n ok lo, vs = [x, .int lo] ∧ Rd K ok H n x d ∧ isSeq d = true ∧ ∀ H', Ex H H' → Q (.bl ((itemsD d).all (fromD lo))) H'
theorem ok_are_from (T : TA2 K mg) : FnOk P w K mg base CX0 3 T.are_from.a T.are_from.fd ["values", "low"] (spAreFrom K) := by
  refine T.are_from.F.ok sc_are_from (fun vs H Q E h => ?_) (fun cdv A outer s H vs Q E hr h => ?_)
  · obtain ⟨x, d, n, ok, lo, rfl, _⟩ := h; rfl
  obtain ⟨x, d, n, ok, lo, rfl, h, sq, q⟩ := h
  obtain ⟨a, xs, rfl, hs, hl, hz, all⟩ := rd_seq h sq
  refine ⟨_, (pss_one (ps_ret (pe_callB (kall K rfl) (by rfl) T.z_all (by decide +kernel) (pa_cons (pe_lc (own := [("value", 2)]) (g := gName 2) (by rfl) sc_are_from.nd (kpis K (pv 0)) (blkOk_by (own := [("value", 2)]) (N := ["values", "low", "value"]) (sc := defScope s_are_from) (by decide +kernel)) (fun _ _ _ _ _ => (pg_name (i := 2) sc_are_from.nd rfl (Or.inl rfl))) (fun _ _ _ _ _ => pts_nil) (fun _ _ _ _ _ => (pe_call (ok_is_from T.toTA1) (hr.mono (by decide)) rfl T.is_from.m T.is_from.F.kp T.is_from.b .nil pass0 (pa_cons (pv 2) (pa_cons (pv 1) pa_nil))))) pa_nil)))), ?_⟩
  have fin : ∀ (p : Addr) (H2 : Hp), H p = none → Ex H H2 → H2 p = some (.lst (given xs.length (fun _ => true) (fun i => .bl (fromD lo ((itemsD d).getD i .none))))) → ∃ (a : Addr) (bs : List Bool), [V.ref p] = [V.ref a] ∧ SqL K H2 a (bs.map V.bl) ∧ Q (.bl (bs.all id)) H2 := by
    intro p H2 _ e2 h2
    rw [given_all] at h2
    refine ⟨p, (itemsD d).map (fromD lo), rfl, ?_, ?_⟩
    · have e : (List.range xs.length).map (fun i => V.bl (fromD lo ((itemsD d).getD i .none))) = ((itemsD d).map (fromD lo)).map V.bl := by
        apply List.ext_getElem?
        intro i
        rw [List.getElem?_map, List.getElem?_map, List.getElem?_map]
        by_cases c : i < xs.length
        · rw [List.getElem?_range c, List.getElem?_eq_getElem (show i < (itemsD d).length by omega)]
          simp [List.getD_eq_getElem?_getD, List.getElem?_eq_getElem (show i < (itemsD d).length by omega)]
        · rw [List.getElem?_eq_none (by rw [List.length_range]; omega), List.getElem?_eq_none (show (itemsD d).length ≤ i by omega)]
          rfl
      rw [e] at h2
      exact SqL.of h2
    · rw [List.all_map]
      exact q H2 e2
  have he : ∀ (i : Nat) (x : V) (H1 : Hp), Ex H H1 → xs[i]? = some x → Ev (tCall (spIsFrom K) [] E0 (tCons (tVar 2) (tCons (tVar 1) tNil))) ((wipe (start ["values", "low", "value"] [.ref a, .int lo]) [2]).set 2 (some x)) H1 (.bl (fromD lo ((itemsD d).getD i .none))) := by
    intro i x H1 e1 hx H2 e2 Q2 k2
    have hi := (List.getElem?_eq_some_iff.mp hx).1
    have hd : (itemsD d)[i]? = some ((itemsD d)[i]'(by omega)) := List.getElem?_eq_getElem _
    have r := (all i x _ hx hd).ex (e1.trans e2)
    have g : (itemsD d).getD i .none = (itemsD d)[i]'(by omega) := by rw [List.getD_eq_getElem?_getD, hd]; rfl
    refine ⟨_, rfl, _, rfl, _, _, rfl, r.dat, fun b h1 h2 => ?_⟩
    rw [rd_from r h1 h2, ← g]
    exact k2 H2 (Ex.refl _)
  rcases hs with ⟨hs, _⟩ | ⟨hs, _⟩
  · exact .inl ((el_lcL (t := tYes) (σ := start ["values", "low", "value"] [.ref a, .int lo]) (vs := [2]) (fun _ => true) (fun i => .bl (fromD lo ((itemsD d).getD i .none))) (ev_var rfl) hs (by omega) (fun _ => rfl) (fun i x H1 _ _ H2 _ Q k => k H2 (Ex.refl _)) (fun i x H1 e1 hx _ => he i x H1 e1 hx)) H (Ex.refl _) (fun v H2 => rAll K [v] H2 Q) fin)
  · exact .inr ((el_lcT (t := tYes) (σ := start ["values", "low", "value"] [.ref a, .int lo]) (vs := [2]) (fun _ => true) (fun i => .bl (fromD lo ((itemsD d).getD i .none))) (ev_var rfl) hs (by omega) (fun _ => rfl) (fun i x H1 _ _ H2 _ Q k => k H2 (Ex.refl _)) (fun i x H1 e1 hx _ => he i x H1 e1 hx)) H (Ex.refl _) (fun v H2 => rAll K [v] H2 Q) fin)

def spAreBetween (K : PySem.W.Frag) : Sp := fun vs H Q _ => ∃ x d n ok lo hi, vs = [x, .int lo, .int hi] ∧ Rd K ok H n x d ∧ isSeq d = true ∧ ∀ H', Ex H H' → Q (.bl ((itemsD d).all (betwD lo hi))) H'
theorem ok_are_between (T : TA2 K mg) : FnOk P w K mg base CX0 3 T.are_between.a T.are_between.fd ["values", "low", "high"] (spAreBetween K) := by
  refine T.are_between.F.ok sc_are_between (fun vs H Q E h => ?_) (fun cdv A outer s H vs Q E hr h => ?_)
  · obtain ⟨x, d, n, ok, lo, hi, rfl, _⟩ := h; rfl
  obtain ⟨x, d, n, ok, lo, hi, rfl, h, sq, q⟩ := h
  obtain ⟨a, xs, rfl, hs, hl, hz, all⟩ := rd_seq h sq
  refine ⟨_, (pss_one (ps_ret (pe_callB (kall K rfl) (by rfl) T.z_all (by decide +kernel) (pa_cons (pe_lc (own := [("value", 3)]) (g := gName 3) (by rfl) sc_are_between.nd (kpis K (pv 0)) (blkOk_by (own := [("value", 3)]) (N := ["values", "low", "high", "value"]) (sc := defScope s_are_between) (by decide +kernel)) (fun _ _ _ _ _ => (pg_name (i := 3) sc_are_between.nd rfl (Or.inl rfl))) (fun _ _ _ _ _ => pts_nil) (fun _ _ _ _ _ => (pe_call (ok_is_between T.toTA1) (hr.mono (by decide)) rfl T.is_between.m T.is_between.F.kp T.is_between.b .nil pass0 (pa_cons (pv 3) (pa_cons (pv 1) (pa_cons (pv 2) pa_nil)))))) pa_nil)))), ?_⟩
  have fin : ∀ (p : Addr) (H2 : Hp), H p = none → Ex H H2 → H2 p = some (.lst (given xs.length (fun _ => true) (fun i => .bl (betwD lo hi ((itemsD d).getD i .none))))) → ∃ (a : Addr) (bs : List Bool), [V.ref p] = [V.ref a] ∧ SqL K H2 a (bs.map V.bl) ∧ Q (.bl (bs.all id)) H2 := by
    intro p H2 _ e2 h2
    rw [given_all] at h2
    refine ⟨p, (itemsD d).map (betwD lo hi), rfl, ?_, ?_⟩
    · have e : (List.range xs.length).map (fun i => V.bl (betwD lo hi ((itemsD d).getD i .none))) = ((itemsD d).map (betwD lo hi)).map V.bl := by
        apply List.ext_getElem?
        intro i
        rw [List.getElem?_map, List.getElem?_map, List.getElem?_map]
        by_cases c : i < xs.length
        · rw [List.getElem?_range c, List.getElem?_eq_getElem (show i < (itemsD d).length by omega)]
          simp [List.getD_eq_getElem?_getD, List.getElem?_eq_getElem (show i < (itemsD d).length by omega)]
        · rw [List.getElem?_eq_none (by rw [List.length_range]; omega), List.getElem?_eq_none (show (itemsD d).length ≤ i by omega)]
          rfl
      rw [e] at h2
      exact SqL.of h2
    · rw [List.all_map]
      exact q H2 e2
  have he : ∀ (i : Nat) (x : V) (H1 : Hp), Ex H H1 → xs[i]? = some x → Ev (tCall (spIsBetween K) [] E0 (tCons (tVar 3) (tCons (tVar 1) (tCons (tVar 2) tNil)))) ((wipe (start ["values", "low", "high", "value"] [.ref a, .int lo, .int hi]) [3]).set 3 (some x)) H1 (.bl (betwD lo hi ((itemsD d).getD i .none))) := by
    intro i x H1 e1 hx H2 e2 Q2 k2
    have hi := (List.getElem?_eq_some_iff.mp hx).1
    have hd : (itemsD d)[i]? = some ((itemsD d)[i]'(by omega)) := List.getElem?_eq_getElem _
    have r := (all i x _ hx hd).ex (e1.trans e2)
    have g : (itemsD d).getD i .none = (itemsD d)[i]'(by omega) := by rw [List.getD_eq_getElem?_getD, hd]; rfl
    refine ⟨_, rfl, _, rfl, _, rfl, _, _, _, rfl, r.dat, fun b h1 h2 => ?_⟩
    rw [rd_betw r h1 h2, ← g]
    exact k2 H2 (Ex.refl _)
  rcases hs with ⟨hs, _⟩ | ⟨hs, _⟩
  · exact .inl ((el_lcL (t := tYes) (σ := start ["values", "low", "high", "value"] [.ref a, .int lo, .int hi]) (vs := [3]) (fun _ => true) (fun i => .bl (betwD lo hi ((itemsD d).getD i .none))) (ev_var rfl) hs (by omega) (fun _ => rfl) (fun i x H1 _ _ H2 _ Q k => k H2 (Ex.refl _)) (fun i x H1 e1 hx _ => he i x H1 e1 hx)) H (Ex.refl _) (fun v H2 => rAll K [v] H2 Q) fin)
  · exact .inr ((el_lcT (t := tYes) (σ := start ["values", "low", "high", "value"] [.ref a, .int lo, .int hi]) (vs := [3]) (fun _ => true) (fun i => .bl (betwD lo hi ((itemsD d).getD i .none))) (ev_var rfl) hs (by omega) (fun _ => rfl) (fun i x H1 _ _ H2 _ Q k => k H2 (Ex.refl _)) (fun i x H1 e1 hx _ => he i x H1 e1 hx)) H (Ex.refl _) (fun v H2 => rAll K [v] H2 Q) fin)

def num16 (d : PyData) : Bool := betwD 0 16 d
theorem ok_check_count (T : TA2 K mg) : FnOk P w K mg base (L2.CX P w) 4 T.check_count.a T.check_count.fd ["count"] (spChkD K T.InvalidNumber.C num16) := by
  refine T.check_count.F.okX sc_check_count (fun vs H Q E h => ?_) (fun cdv A outer s H vs Q E hr h => ?_)
  · obtain ⟨x, d, n, ok, rfl, _⟩ := h; rfl
  obtain ⟨x, d, n, ok, rfl, h, q1, q2⟩ := h
  refine ⟨_, (pss_one (ps_if (pt_not (pt_val (pe_call (ok_is_between T.toTA1) (hr.mono (by decide)) rfl T.is_between.m T.is_between.F.kp T.is_between.b .nil pass0 (pa_cons (pv 0) (pa_cons pe_int (pa_cons (pe_glob (v := .int 16) rfl T.c_MOST_KINDS ⟨_, rfl⟩) pa_nil)))))) (pss_one (ps_raise rfl (takes_of rfl rfl rfl rfl) (pmk_oex T.InvalidNumber.T T.InvalidNumber.iC T.InvalidNumber.tI (ok_init_InvalidNumber T.InvalidNumber) (hr.mono (by decide)) T.InvalidNumber.b .nil pass0 rfl T.InvalidNumber.gC (by exact (pa_cons (pv 0) pa_nil))))) pss_nil)), ?_⟩
  refine ⟨_, rfl, _, _, _, rfl, h.dat, fun b h1 h2 => ⟨b, rfl, ?_⟩⟩
  have hb := rda_betw h h1 h2
  subst hb
  cases c : betwD 0 16 d with
  | true => exact q1 c _ (Ex.refl _)
  | false => exact ⟨_, rfl, (by show 1 ≤ 1000; decide), fun a ha => raised ha fun e H' ex he => q2 c e H' ex he⟩
def sizesD (d : PyData) : Bool := isSeq d && decide ((itemsD d).length ≤ 16) && (itemsD d).all (fromD 1)
theorem ok_check_sizes (T : TA2 K mg) : FnOk P w K mg base (L2.CX P w) 5 T.check_sizes.a T.check_sizes.fd ["sizes"] (spChkD K T.InvalidSizes.C sizesD) := by
  refine T.check_sizes.F.okX sc_check_sizes (fun vs H Q E h => ?_) (fun cdv A outer s H vs Q E hr h => ?_)
  · obtain ⟨x, d, n, ok, rfl, _⟩ := h; rfl
  obtain ⟨x, d, n, ok, rfl, h, q1, q2⟩ := h
  refine ⟨_, (pss_one (ps_if (PW.pt (pw_or (pt_not (pt_val (pe_call (ok_is_list T.toTA1) (hr.mono (by decide)) rfl T.is_list.m T.is_list.F.kp T.is_list.b .nil pass0 (pa_cons (pv 0) pa_nil)))) (pw_or (pt_cmpR op_gt (pe_callB (klen K) (by rfl) T.z_len (by decide +kernel) (pa_cons (pv 0) pa_nil)) (pe_glob (v := .int 16) rfl T.c_MOST_KINDS ⟨_, rfl⟩) (nomark _)) (pw_or1 (pt_not (pt_val (pe_call (ok_are_from T) (hr.mono (by decide)) rfl T.are_from.m T.are_from.F.kp T.are_from.b .nil pass0 (pa_cons (pv 0) (pa_cons pe_int pa_nil))))))))) (pss_one (ps_raise rfl (takes_of rfl rfl rfl rfl) (pmk_oex T.InvalidSizes.T T.InvalidSizes.iC T.InvalidSizes.tI (ok_init_InvalidSizes T.InvalidSizes) (hr.mono (by decide)) T.InvalidSizes.b .nil pass0 rfl T.InvalidSizes.gC (by exact (pa_cons (pv 0) pa_nil))))) pss_nil)), ?_⟩
  refine ⟨_, rfl, x, d, n, ok, rfl, h, fun H1 e1 => ⟨isSeq d, rfl, ?_⟩⟩
  cases sq : isSeq d with
  | false => exact iteT (iteT ⟨_, rfl, (by show 1 ≤ 1000; decide), fun a ha => raised ha fun e H' ex he => q2 (by unfold sizesD; rw [sq]; rfl) e H' (e1.trans ex) he⟩)
  | true =>
  have h1 := (h.rd sq).ex e1
  obtain ⟨a, xs, rfl, hs, hl, hz, all⟩ := rd_seq h1 sq
  refine iteF ⟨_, rfl, _, _, rfl, (hs.imp (fun z => ⟨_, z.1, rfl⟩) (fun z => ⟨_, z.1, rfl⟩)), _, _, rfl, rfl, _, rfl, ite2 (fun c => ?_) (fun c => ?_)⟩
  · have c' := of_decide_eq_true c
    exact iteT ⟨_, rfl, (by show 1 ≤ 1000; decide), fun a ha => raised ha fun e H' ex he => q2 (by unfold sizesD; rw [sq, decide_eq_false (by omega)]; rfl) e H' (e1.trans ex) he⟩
  · have c' := of_decide_eq_false (Bool.eq_false_iff.mpr c)
    refine ⟨_, rfl, .ref a, d, n, ok, 1, rfl, h1, sq, fun H2 e2 => ⟨_, rfl, ?_⟩⟩
    cases al : (itemsD d).all (fromD 1) with
    | false => exact iteT ⟨_, rfl, (by show 1 ≤ 1000; decide), fun a ha => raised ha fun e H' ex he => q2 (by unfold sizesD; rw [sq, al, Bool.and_false]) e H' ((e1.trans e2).trans ex) he⟩
    | true => exact iteF (q1 (by unfold sizesD; rw [sq, al, decide_eq_true (by omega)]; rfl) _ (e1.trans e2))
/-- all are ints, and each is less than the next one -/
def ltD (ds : List PyData) (i : Nat) : Bool := match ds[i]?, ds[i + 1]? with
  | some (.int a), some (.int b) => decide (a < b)
  | _, _ => false
def ascD (ds : List PyData) : Bool := (List.range (ds.length - 1)).all (ltD ds)
def kindsD (d : PyData) : Bool := isSeq d && decide ((itemsD d).length ≤ 16) && (itemsD d).all (betwD 1 64) && ascD (itemsD d)
def spAsc (K : PySem.W.Frag) : Sp := fun vs H Q _ => ∃ x d n ok, vs = [x] ∧ Rd K ok H n x d ∧ isSeq d = true ∧ (itemsD d).all (betwD 1 64) = true ∧ ∀ H', Ex H H' → Q (.bl (ascD (itemsD d))) H'
theorem tyes {σ : L2.St} {H : Hp} {F G : Hp → Prop} (h : F H) : tYes σ H (fun b H3 => if b = true then F H3 else G H3) := by
  show if true = true then F H else G H
  rw [if_pos rfl]
  exact h
theorem rix {H : Hp} {a : Addr} {xs : List V} {i : Int} {v : V} {Q : VK} (h : SqL K H a xs ∨ SqT K H a xs) (ha : atI xs i = some v) (q : Q v H) : rIx K (.ref a) (.int i) H Q := by
  rcases h with h | h
  · exact .inl ⟨a, xs, i, v, rfl, rfl, h, ha, q⟩
  · exact .inr (.inl ⟨a, xs, i, v, rfl, rfl, h, ha, q⟩)
theorem ok_is_ascending (T : TA2 K mg) : FnOk P w K mg base CX0 3 T.is_ascending.a T.is_ascending.fd ["numbers"] (spAsc K) := by
  refine T.is_ascending.F.ok sc_is_ascending (fun vs H Q E h => ?_) (fun cdv A outer s H vs Q E hr h => ?_)
  · obtain ⟨x, d, n, ok, rfl, _⟩ := h; rfl
  obtain ⟨x, d, n, ok, rfl, h, sq, al, q⟩ := h
  obtain ⟨a, xs, rfl, hs, hl, hz, all⟩ := rd_seq h sq
  refine ⟨_, (pss_one (ps_ret (pe_callB (kall K rfl) (by rfl) T.z_all (by decide +kernel) (pa_cons (pe_lc (own := [("at", 1)]) (g := gName 1) (by rfl) sc_is_ascending.nd (pi_range1 rfl T.z_range (pa_cons (pe_op op_sub (pe_callB (klen K) (by rfl) T.z_len (by decide +kernel) (pa_cons (pv 0) pa_nil)) pe_int) pa_nil)) (blkOk_by (own := [("at", 1)]) (N := ["numbers", "at"]) (sc := defScope s_is_ascending) (by decide +kernel)) (fun _ _ _ _ _ => (pg_name (i := 1) sc_is_ascending.nd rfl (Or.inl rfl))) (fun _ _ _ _ _ => pts_nil) (fun _ _ _ _ _ => (pe_cmpR op_lt (pe_ix (kix K) (pv 0) (pv 1) (fun _ _ => rfl)) (pe_ix (kix K) (pv 0) (pe_op op_add (pv 1) pe_int) (fun _ _ => rfl)) (nomark _)))) pa_nil)))), ?_⟩
  have key : ∀ i, i < xs.length → ∃ z, xs[i]? = some (.int z) ∧ (itemsD d)[i]? = some (.int z) := fun i hi => by
    have hd : (itemsD d)[i]? = some ((itemsD d)[i]'(by omega)) := List.getElem?_eq_getElem _
    have r := all i _ _ (List.getElem?_eq_getElem hi) hd
    obtain ⟨z, e1, e2, _⟩ := betw_int r (List.all_eq_true.mp al _ (List.getElem_mem _))
    exact ⟨z, by rw [List.getElem?_eq_getElem hi, e1], by rw [hd, e2]⟩
  have sq2 : SqL K H a xs ∨ SqT K H a xs := hs.imp (fun z => z.1) (fun z => z.1)
  refine ⟨_, rfl, _, _, rfl, (hs.imp (fun z => ⟨_, z.1, rfl⟩) (fun z => ⟨_, z.1, rfl⟩)), _, _, rfl, rfl, _, rfl, by omega, by omega, fun D hD => lc_range (fun i H' => Ex H H' ∧ H' D = some (.lst ((List.range i).map fun k => V.bl (ltD (itemsD d) k)))) ⟨Ex.new hD, upd_same⟩ ?_ ?_⟩
  · rintro i H' hi ⟨e, hd⟩
    obtain ⟨z1, x1, d1⟩ := key i (by omega)
    obtain ⟨z2, x2, d2⟩ := key (i + 1) (by omega)
    refine ⟨rfl, tyes ?_⟩
    have s3 : SqL K H' a xs ∨ SqT K H' a xs := sq2.imp (ex_l e) (ex_t e)
    refine ⟨_, rfl, _, rfl, rix s3 (at_of (show (0 + (i : Int)) = ((i : Nat) : Int) by omega) x1) ⟨_, rfl, _, rfl, _, _, rfl, rfl, rix s3 (at_of (show (0 + (i : Int)) + 1 = ((i + 1 : Nat) : Int) by omega) x2) ⟨z1, z2, rfl, rfl, ?_⟩⟩⟩
    refine ⟨_, hd, small1000 (by rw [List.length_map, List.length_range]; omega), e.mut hD, ?_⟩
    rw [upd_same, List.range_succ, List.map_append]
    have : ltD (itemsD d) i = decide (z1 < z2) := by unfold ltD; rw [d1, d2]
    rw [List.map_singleton, this]
  · rintro H' ⟨e, hd⟩
    refine ⟨D, (List.range ((xs.length : Int) - 1).toNat).map (ltD (itemsD d)), rfl, SqL.of (by rw [List.map_map]; exact hd), ?_⟩
    have e2 : (((List.range ((xs.length : Int) - 1).toNat).map (ltD (itemsD d))).all id) = ascD (itemsD d) := by
      unfold ascD
      rw [List.all_map, show ((xs.length : Int) - 1).toNat = (itemsD d).length - 1 by omega]
      rfl
    rw [e2]
    exact q _ e
theorem ok_check_kinds (T : TA2 K mg) : FnOk P w K mg base (L2.CX P w) 5 T.check_kinds.a T.check_kinds.fd ["kinds"] (spChkD K T.InvalidKinds.C kindsD) := by
  refine T.check_kinds.F.okX sc_check_kinds (fun vs H Q E h => ?_) (fun cdv A outer s H vs Q E hr h => ?_)
  · obtain ⟨x, d, n, ok, rfl, _⟩ := h; rfl
  obtain ⟨x, d, n, ok, rfl, h, q1, q2⟩ := h
  refine ⟨_, (pss_cons (ps_if (PW.pt (pw_or (pt_not (pt_val (pe_call (ok_is_list T.toTA1) (hr.mono (by decide)) rfl T.is_list.m T.is_list.F.kp T.is_list.b .nil pass0 (pa_cons (pv 0) pa_nil)))) (pw_or1 (pt_cmpR op_gt (pe_callB (klen K) (by rfl) T.z_len (by decide +kernel) (pa_cons (pv 0) pa_nil)) (pe_glob (v := .int 16) rfl T.c_MOST_KINDS ⟨_, rfl⟩) (nomark _))))) (pss_one (ps_raise rfl (takes_of rfl rfl rfl rfl) (pmk_oex T.InvalidKinds.T T.InvalidKinds.iC T.InvalidKinds.tI (ok_init_InvalidKinds T.InvalidKinds) (hr.mono (by decide)) T.InvalidKinds.b .nil pass0 rfl T.InvalidKinds.gC (by exact (pa_cons (pv 0) pa_nil))))) pss_nil)
    (pss_one (ps_if (PW.pt (pw_or (pt_not (pt_val (pe_call (ok_are_between T) (hr.mono (by decide)) rfl T.are_between.m T.are_between.F.kp T.are_between.b .nil pass0 (pa_cons (pv 0) (pa_cons pe_int (pa_cons (pe_glob (v := .int 64) rfl T.c_LAST_KIND ⟨_, rfl⟩) pa_nil)))))) (pw_or1 (pt_not (pt_val (pe_call (ok_is_ascending T) (hr.mono (by decide)) rfl T.is_ascending.m T.is_ascending.F.kp T.is_ascending.b .nil pass0 (pa_cons (pv 0) pa_nil))))))) (pss_one (ps_raise rfl (takes_of rfl rfl rfl rfl) (pmk_oex T.InvalidKinds.T T.InvalidKinds.iC T.InvalidKinds.tI (ok_init_InvalidKinds T.InvalidKinds) (hr.mono (by decide)) T.InvalidKinds.b .nil pass0 rfl T.InvalidKinds.gC (by exact (pa_cons (pv 0) pa_nil))))) pss_nil))), ?_⟩
  refine ⟨_, rfl, x, d, n, ok, rfl, h, fun H1 e1 => ⟨isSeq d, rfl, ?_⟩⟩
  cases sq : isSeq d with
  | false => exact iteT (iteT ⟨_, rfl, (by show 1 ≤ 1000; decide), fun a ha => raised ha fun e H' ex he => q2 (by unfold kindsD; rw [sq]; rfl) e H' (e1.trans ex) he⟩)
  | true =>
  have h1 := (h.rd sq).ex e1
  obtain ⟨a, xs, rfl, hs, hl, hz, all⟩ := rd_seq h1 sq
  refine iteF ⟨_, rfl, _, _, rfl, (hs.imp (fun z => ⟨_, z.1, rfl⟩) (fun z => ⟨_, z.1, rfl⟩)), _, _, rfl, rfl, _, rfl, ite2 (fun c => ?_) (fun c => ?_)⟩
  · have c' := of_decide_eq_true c
    exact ⟨_, rfl, (by show 1 ≤ 1000; decide), fun a ha => raised ha fun e H' ex he => q2 (by unfold kindsD; rw [sq, decide_eq_false (by omega)]; rfl) e H' (e1.trans ex) he⟩
  · have c' := of_decide_eq_false (Bool.eq_false_iff.mpr c)
    refine ⟨_, rfl, .ref a, d, n, ok, 1, 64, rfl, h1, sq, fun H2 e2 => ⟨_, rfl, ?_⟩⟩
    cases al : (itemsD d).all (betwD 1 64) with
    | false => exact iteT (iteT ⟨_, rfl, (by show 1 ≤ 1000; decide), fun a ha => raised ha fun e H' ex he => q2 (by unfold kindsD; rw [sq, al, Bool.and_false, Bool.false_and]) e H' ((e1.trans e2).trans ex) he⟩)
    | true =>
      refine iteF ⟨_, rfl, .ref a, d, n, ok, rfl, h1.ex e2, sq, al, fun H3 e3 => ⟨_, rfl, ?_⟩⟩
      cases ac : ascD (itemsD d) with
      | false => exact iteT ⟨_, rfl, (by show 1 ≤ 1000; decide), fun a ha => raised ha fun e H' ex he => q2 (by unfold kindsD; rw [sq, al, ac, Bool.and_false]) e H' (((e1.trans e2).trans e3).trans ex) he⟩
      | true => exact iteF (q1 (by unfold kindsD; rw [sq, al, ac, decide_eq_true (by omega)]; rfl) _ ((e1.trans e2).trans e3))
end
end L2.U


set_option Elab.async false
set_option linter.all false
set_option maxRecDepth 100000
set_option maxHeartbeats 4000000
namespace L2.U
open PySem PySem.Spec PyProof.Rows Evl
section
variable {P : Program} {w : World} {K : PySem.W.Frag} {mg : Str → Option Value} {base : Heap}
theorem comb_lt {a b : Int} (ha : 0 ≤ a) (h : a ≤ 64) (hb : 0 ≤ b) (hb2 : b ≤ 64) : 0 ≤ PySem.W.mcComb a b ∧ PySem.W.mcComb a b < 2 ^ 64 := by
  have key : ∀ n : Fin 65, ∀ k : Fin 65, 0 ≤ PySem.W.mcComb (n.val : Int) (k.val : Int) ∧ PySem.W.mcComb (n.val : Int) (k.val : Int) < 2 ^ 64 := by decide +kernel
  have := key ⟨a.toNat, by omega⟩ ⟨b.toNat, by omega⟩
  simpa [Int.toNat_of_nonneg ha, Int.toNat_of_nonneg hb] using this

def manyI : Int → List Int → Int → Int
  | _, [], _ => 1
  | c, s :: r, g => if c < s then 0 else PySem.W.mcComb c s * manyI (c - s - g) r g
theorem manyI_nil {c g : Int} : manyI c [] g = 1 := rfl
theorem manyI_cons {c s g : Int} {r : List Int} : manyI c (s :: r) g = if c < s then 0 else PySem.W.mcComb c s * manyI (c - s - g) r g := rfl
def spMany (K : PySem.W.Frag) : Sp := fun vs H Q _ => ∃ (c g : Int) (a : Addr) (ns : List Int), vs = [.int c, .ref a, .int g] ∧ (SqL K H a (ns.map V.int) ∨ SqT K H a (ns.map V.int)) ∧ c ≤ 64 ∧ 0 ≤ g ∧ (∀ z ∈ ns, 1 ≤ z) ∧ Q (.int (manyI c ns g)) H
theorem ok_many (T : TA2 K mg) : FnOk P w K mg base CX0 1 T.many.a T.many.fd ["count", "sizes", "gap"] (spMany K) := by
  refine T.many.F.ok sc_many (fun vs H Q E h => ?_) (fun cdv A outer s H vs Q E hr h => ?_)
  · obtain ⟨c, g, a, ns, rfl, _⟩ := h; rfl
  obtain ⟨c, g, a, ns, rfl, hs, hc, hg, hn, q⟩ := h
  refine ⟨_, (pss_cons (ps_set (i := 3) sc_many.nd rfl (Or.inl rfl) pe_int)
    (pss_cons (ps_set (i := 4) sc_many.nd rfl (Or.inl rfl) (pv 0))
    (pss_cons (ps_for PassesOwn.never rfl (kpis K (pv 1)) (pg_name (i := 5) sc_many.nd rfl (Or.inl rfl)) (pss_cons (ps_if (pt_cmpR op_gt (pv 5) (pv 4) (nomark _)) (pss_one (ps_ret pe_int)) pss_nil)
    (pss_cons (ps_aug (i := 3) sc_many.nd rfl (Or.inl rfl) (pe_callBfun cr_comb rfl T.c_comb (pa_cons (pv 4) (pa_cons (pv 5) pa_nil))) ip_mulC)
    (pss_one (ps_set (i := 4) sc_many.nd rfl (Or.inl rfl) (pe_op op_sub (pe_op op_sub (pv 4) (pv 5)) (pv 2)))))))
    (pss_one (ps_ret (pv 3)))))), ?_⟩
  refine ⟨_, rfl, ?_⟩
  have turn : ∀ (i : Nat) (x : V) (σ : L2.St), (ns.map V.int)[i]? = some x → (∃ R l v, σ = [some (.int c), some (.ref a), some (.int g), some (.int R), some (.int l), v] ∧ l ≤ 64 ∧ manyI c ns g = R * manyI l (ns.drop i) g) →
      gName 5 x σ H fun σ2 H3 => tSeq (tIfS (tTest (tOp (rI0 fun i j => .bl (decide (j < i))) (tVar 5) (tVar 4))) (tRet (tC (.int 0))) tNext) (tSeq (tAug 3 (tCB rComb (tCons (tVar 4) (tCons (tVar 5) tNil))) fun x y H Q => ∃ i j, x = .int i ∧ y = .int j ∧ CMul i j ∧ Q (.int (i * j)) H)
        (tAsg (tOp (rI0 fun i j => .int (i - j)) (tOp (rI0 fun i j => .int (i - j)) (tVar 4) (tVar 5)) (tVar 2)) (gName 4)))
        { nx := fun σ' H' => H' = H ∧ ∃ R l v, σ' = [some (.int c), some (.ref a), some (.int g), some (.int R), some (.int l), v] ∧ l ≤ 64 ∧ manyI c ns g = R * manyI l (ns.drop (i + 1)) g, rt := Q } σ2 H3 := by
    rintro i x σ hx ⟨R, l, v, rfl, hl, hm⟩
    obtain ⟨z, hz, rfl⟩ := ints_get hx
    obtain ⟨hi, ez⟩ := List.getElem?_eq_some_iff.mp hz
    have h1 := hn z (List.mem_of_getElem? hz)
    rw [← List.getElem_cons_drop hi, ez] at hm
    rw [manyI_cons] at hm
    refine ⟨_, rfl, _, rfl, _, _, rfl, rfl, _, rfl, ite2 (fun cc => ?_) (fun cc => ?_)⟩
    · rw [if_pos (of_decide_eq_true cc), Int.mul_zero] at hm
      rw [hm] at q
      exact q
    · have c' : ¬ l < z := of_decide_eq_false (Bool.eq_false_iff.mpr cc)
      rw [if_neg c', ← Int.mul_assoc] at hm
      have hc := @comb_lt l z (by omega) (by omega) (by omega) (by omega)
      refine ⟨_, rfl, _, rfl, _, rfl, _, _, rfl, by omega, by omega, by omega, by omega, _, _, rfl, rfl, .inr ⟨by omega, hc.2⟩, ?_⟩
      exact ⟨_, rfl, _, rfl, _, _, rfl, rfl, _, rfl, _, _, rfl, rfl, rfl, _, _, _, rfl, by omega, hm⟩
  have fin : ∀ σ H', (H' = H ∧ ∃ R l v, σ = [some (.int c), some (.ref a), some (.int g), some (.int R), some (.int l), v] ∧ l ≤ 64 ∧ manyI c ns g = R * manyI l (ns.drop (ns.map V.int).length) g) → tRet (tVar 3) { nx := fun _ H' => Q .non H', rt := Q } σ H' := by
    rintro σ H' ⟨rfl, R, l, v, rfl, _, hm⟩
    rw [List.length_map, List.drop_length] at hm
    rw [manyI_nil, Int.mul_one] at hm
    rw [hm] at q
    exact ⟨_, rfl, q⟩
  have one : manyI c ns g = 1 * manyI c (ns.drop 0) g := by rw [Int.one_mul]; rfl
  rcases hs with hs2 | hs2
  · exact .inl ⟨_, rfl, a, rfl, ⟨_, hs2⟩, for_list (xs := ns.map V.int) (fun i σ H' => H' = H ∧ ∃ R l v, σ = [some (.int c), some (.ref a), some (.int g), some (.int R), some (.int l), v] ∧ l ≤ 64 ∧ manyI c ns g = R * manyI l (ns.drop i) g) ⟨rfl, _, _, _, rfl, hc, one⟩
      (fun i σ H' _ ⟨e, _⟩ => e ▸ hs2) (fun i x σ H' hx ⟨e, hv⟩ => e ▸ turn i x σ hx hv) fin⟩
  · exact .inr ⟨_, rfl, a, rfl, ⟨_, hs2⟩, for_tup (xs := ns.map V.int) (fun i σ H' => H' = H ∧ ∃ R l v, σ = [some (.int c), some (.ref a), some (.int g), some (.int R), some (.int l), v] ∧ l ≤ 64 ∧ manyI c ns g = R * manyI l (ns.drop i) g) ⟨rfl, _, _, _, rfl, hc, one⟩
      (fun i σ H' _ ⟨e, _⟩ => e ▸ hs2) (fun i x σ H' hx ⟨e, hv⟩ => e ▸ turn i x σ hx hv) fin⟩
theorem filter_take {α : Type} {f : α → Bool} {xs : List α} {i : Nat} {x : α} (h : xs[i]? = some x) : (xs.take (i + 1)).filter f = (xs.take i).filter f ++ (if f x = true then [x] else []) := by
  rw [List.take_add_one, h, List.filter_append]
  congr 1
  show List.filter f [x] = _
  rw [List.filter_cons]
  split <;> rfl
theorem filter_take_le {α : Type} {f : α → Bool} {xs : List α} {i : Nat} : ((xs.take i).filter f).length ≤ xs.length :=
  Nat.le_trans (List.length_filter_le _ _) (List.length_take_le' _ _)
theorem flat_ints {ns : List Int} : (ns.map V.int).all flatV = true := by
  rw [List.all_map, List.all_eq_true]
  intro x _
  rfl
theorem inV_ints {i : Int} {ns : List Int} : inV (.int i) (ns.map V.int) = decide (i ∈ ns) := by
  unfold inV
  induction ns with
  | nil => rfl
  | cons n r ih =>
    rw [List.map_cons, List.any_cons, ih]
    have e : eqV (.int n) (.int i) = decide (i = n) := by
      show (n == i) = decide (i = n)
      rw [Bool.beq_eq_decide_eq]
      exact decide_eq_decide.mpr eq_comm
    rw [e]
    by_cases c : i = n <;> simp [c]
theorem cut_from {xs : List V} {k : Nat} : cutV xs (some (k : Int)) none = xs.drop k := by
  unfold cutV
  rw [HT.sIx_none, HT.sIx_nat, List.take_of_length_le (by rw [List.length_drop]; exact Nat.le_refl _)]
  by_cases c : k ≤ xs.length
  · rw [Nat.min_eq_left c]
  · rw [Nat.min_eq_right (by omega), List.drop_length, List.drop_eq_nil_of_le (by omega)]
def behindI (ks cs : List Int) (g : Int) : List Int := (ks.filter fun z => !decide (z ∈ cs)).drop g.toNat
def spBehind (K : PySem.W.Frag) : Sp := fun vs H Q _ => ∃ (a b : Addr) (ks cs : List Int) (g : Int), vs = [.ref a, .ref b, .int g] ∧ (SqL K H a (ks.map V.int) ∨ SqT K H a (ks.map V.int)) ∧ SqT K H b (cs.map V.int) ∧ ks.length ≤ 64 ∧ (g = 0 ∨ g = 1) ∧
  ∀ (p : Addr) H', Ex H H' → H p = none → H' p = some (.lst ((behindI ks cs g).map V.int)) → Q (.ref p) H'
theorem ok_behind (T : TA2 K mg) : FnOk P w K mg base CX0 1 T.behind.a T.behind.fd ["kinds", "chosen", "gap"] (spBehind K) := by
  refine T.behind.F.ok sc_behind (fun vs H Q E h => ?_) (fun cdv A outer s H vs Q E hr h => ?_)
  · obtain ⟨a, b, ks, cs, g, rfl, _⟩ := h; rfl
  obtain ⟨a, b, ks, cs, g, rfl, hs, hb, hk, hg, q⟩ := h
  refine ⟨_, (pss_one (ps_ret (pe_slice (kslL K) (pe_lc (own := [("kind", 3)]) (g := gName 3) (by rfl) sc_behind.nd (kpis K (pv 0)) (blkOk_by (own := [("kind", 3)]) (N := ["kinds", "chosen", "gap", "kind"]) (sc := defScope s_behind) (by decide +kernel)) (fun _ _ _ _ _ => (pg_name (i := 3) sc_behind.nd rfl (Or.inl rfl))) (fun _ _ _ _ _ => (pts_one (pt_cmpR (knotin K) (pv 3) (pv 1) (by rfl)))) (fun _ _ _ _ _ => (pv 3))) (po_some (pv 2)) po_none))), ?_⟩
  have turn : ∀ (D : Addr) (hD : H D = none) (i : Nat) (x : V) (H' : Hp), (ks.map V.int)[i]? = some x → (Ex H H' ∧ H' D = some (.lst (((ks.take i).filter fun z => !decide (z ∈ cs)).map V.int))) →
      gName 3 x (wipe (start ["kinds", "chosen", "gap", "kind"] [.ref a, .ref b, .int g]) [3]) H' fun σ2 H2 => wipe σ2 [3] = wipe (start ["kinds", "chosen", "gap", "kind"] [.ref a, .ref b, .int g]) [3] ∧ tTest (tOp (rIn K true) (tVar 3) (tVar 1)) σ2 H2 fun bb H3 =>
        if bb = true then tVar 3 σ2 H3 fun y H4 => ∃ acc, H4 D = some (.lst acc) ∧ acc.length < sizeLine ∧ (fun i H' => Ex H H' ∧ H' D = some (.lst (((ks.take i).filter fun z => !decide (z ∈ cs)).map V.int))) (i + 1) (upd H4 D (.lst (acc ++ [y]))) else (fun i H' => Ex H H' ∧ H' D = some (.lst (((ks.take i).filter fun z => !decide (z ∈ cs)).map V.int))) (i + 1) H3 := by
    rintro D hD i x H' hx ⟨e, hd⟩
    obtain ⟨z, hz, rfl⟩ := ints_get hx
    have hi := (List.getElem?_eq_some_iff.mp hz).1
    have lz : ((ks.take i).filter fun z => !decide (z ∈ cs)).length ≤ ks.length := Nat.le_trans (List.length_filter_le _ _) (by rw [List.length_take]; omega)
    refine ⟨rfl, _, rfl, _, rfl, _, _, rfl, .inr (ex_t e hb), rfl, flat_ints, _, rfl, ?_⟩
    rw [if_pos rfl, inV_ints]
    by_cases m : z ∈ cs
    · rw [decide_eq_true m]
      refine iteF ⟨e, ?_⟩
      rw [hd, filter_take hz]
      simp [m]
    · rw [decide_eq_false m]
      refine iteT ⟨_, rfl, _, hd, small1000 (by rw [List.length_map]; omega), e.mut hD, ?_⟩
      rw [upd_same, filter_take hz]
      simp [m]
  have fin : ∀ (D : Addr) (H' : Hp), H D = none → (Ex H H' ∧ H' D = some (.lst (((ks.take (ks.map V.int).length).filter fun z => !decide (z ∈ cs)).map V.int))) → (tPart (tVar 2) (start ["kinds", "chosen", "gap", "kind"] [.ref a, .ref b, .int g]) H' fun l H2 => tNoPart (start ["kinds", "chosen", "gap", "kind"] [.ref a, .ref b, .int g]) H2 fun u H3 => rSlL K (.ref D) l u H3 Q) := by
    rintro D H' hD ⟨e, hd⟩
    rw [List.length_map, List.take_length] at hd
    refine ⟨_, rfl, g, rfl, D, _, rfl, SqL.of hd, fun p hp => q p _ (e.trans (Ex.new hp)) (fresh_back e hp) ?_⟩
    rw [upd_same]
    obtain ⟨k, rfl⟩ : ∃ k : Nat, g = (k : Int) := ⟨g.toNat, by omega⟩
    rw [cut_from, ← List.map_drop]
    rfl
  rcases hs with hs2 | hs2
  · exact .inl ⟨_, rfl, a, rfl, ⟨_, hs2⟩, fun D hD => lc_list (xs := ks.map V.int) (fun i H' => Ex H H' ∧ H' D = some (.lst (((ks.take i).filter fun z => !decide (z ∈ cs)).map V.int))) ⟨Ex.new hD, upd_same⟩ (fun i H' _ p => ex_l p.1 hs2) (fun i x H' hx p => turn D hD i x H' hx p) (fun H' p => fin D H' hD p)⟩
  · exact .inr ⟨_, rfl, a, rfl, ⟨_, hs2⟩, fun D hD => lc_tup (xs := ks.map V.int) (fun i H' => Ex H H' ∧ H' D = some (.lst (((ks.take i).filter fun z => !decide (z ∈ cs)).map V.int))) ⟨Ex.new hD, upd_same⟩ (fun i H' _ p => ex_t p.1 hs2) (fun i x H' hx p => turn D hD i x H' hx p) (fun H' p => fin D H' hD p)⟩
end
end L2.U


set_option Elab.async false
set_option linter.all false
set_option maxRecDepth 100000
set_option maxHeartbeats 4000000
namespace L2.U
open PySem PySem.Spec PyProof.Rows Evl
section
variable {P : Program} {w : World} {K : PySem.W.Frag} {mg : Str → Option Value} {base : Heap}
theorem shaped0 : SeqAt.shaped (PyData.tuple []) = true := by
  simp only [SeqAt.shaped, PyData.canLay0, PyData.canLayAll0, PyData.depth, PyData.depthAll]
  decide
def inD (ks : List Int) : PyData → Bool
  | .int i => decide (i ∈ ks)
  | _ => false
def chosenD (ks : List Int) : PyData → Bool
  | .tuple ds => !ds.isEmpty && ds.all (inD ks) && ascD ds
  | _ => false
def spChosen (K : PySem.W.Frag) : Sp := fun vs H Q _ => ∃ (x : V) (d : PyData) (n : Nat) (ok : Addr → Prop) (b : Addr) (ks : List Int), vs = [x, .ref b] ∧ Rd K ok H n x d ∧ n ≤ 20 ∧ SqL K H b (ks.map V.int) ∧ (∀ k ∈ ks, 1 ≤ k ∧ k ≤ 64) ∧ ∀ H', Ex H H' → Q (.bl (chosenD ks d)) H'
theorem ok_is_chosen (T : TA2 K mg) : FnOk P w K mg base CX0 4 T.is_chosen.a T.is_chosen.fd ["value", "kinds"] (spChosen K) := by
  refine T.is_chosen.F.ok sc_is_chosen (fun vs H Q E h => ?_) (fun cdv A outer s H vs Q E hr h => ?_)
  · obtain ⟨x, d, n, ok, b, ks, rfl, _⟩ := h; rfl
  obtain ⟨x, d, n, ok, b, ks, rfl, h, hn, hb, hk, q⟩ := h
  refine ⟨_, (pss_cons (ps_if (PW.pt (pw_or (pt_not (pt_val (pe_callB (kisi K) (by rfl) T.z_isinstance (by decide +kernel) (pa_cons (pv 0) (pa_cons (pe_bltn (v := .ty "tuple") rfl T.z_tuple (by decide +kernel) rfl) pa_nil))))) (pw_or1 (pt_cmpR (keqD K hr.units) (pv 0) (pe_tup pa_nil) (nomark _))))) (pss_one (ps_ret pe_bl)) pss_nil)
    (pss_cons (ps_if (pt_not (pt_val (pe_callB (kall K rfl) (by rfl) T.z_all (by decide +kernel) (pa_cons (pe_lc (own := [("kind", 2)]) (g := gName 2) (by rfl) sc_is_chosen.nd (kpit K (pv 0)) (blkOk_by (own := [("kind", 2)]) (N := ["value", "kinds", "kind"]) (sc := defScope s_is_chosen) (by decide +kernel)) (fun _ _ _ _ _ => (pg_name (i := 2) sc_is_chosen.nd rfl (Or.inl rfl))) (fun _ _ _ _ _ => pts_nil) (fun _ _ _ _ _ => (pe_and (pe_call (ok_is_integer T.toTA1) (hr.mono (by decide)) rfl T.is_integer.m T.is_integer.F.kp T.is_integer.b .nil pass0 (pa_cons (pv 2) pa_nil)) (pe_one (pe_cmpR (kin K) (pv 2) (pv 1) (by rfl)))))) pa_nil)))) (pss_one (ps_ret pe_bl)) pss_nil)
    (pss_one (ps_ret (pe_call (ok_is_ascending T) (hr.mono (by decide)) rfl T.is_ascending.m T.is_ascending.F.kp T.is_ascending.b .nil pass0 (pa_cons (pv 0) pa_nil)))))), ?_⟩
  have fin : ∀ H' c, Ex H H' → chosenD ks d = c → Q (.bl c) H' := fun H' c e hc => hc ▸ q H' e
  have h0 := h
  cases h with
  | non => exact ⟨_, rfl, _, _, _, _, false, rfl, .ty "tuple", .base .non, kit_ty (by decide +kernel), _, rfl, iteT (iteT (fin _ _ (Ex.refl _) rfl))⟩
  | bl c => exact ⟨_, rfl, _, _, _, _, false, rfl, .ty "tuple", .base (.bl c), kit_ty (by decide +kernel), _, rfl, iteT (iteT (fin _ _ (Ex.refl _) rfl))⟩
  | int i => exact ⟨_, rfl, _, _, _, _, false, rfl, .ty "tuple", .base (.int i), kit_ty (by decide +kernel), _, rfl, iteT (iteT (fin _ _ (Ex.refl _) rfl))⟩
  | str z _ _ => exact ⟨_, rfl, _, _, _, _, false, rfl, .ty "tuple", .base (.str z), kit_ty (by decide +kernel), _, rfl, iteT (iteT (fin _ _ (Ex.refl _) rfl))⟩
  | lst h1 => exact ⟨_, rfl, _, _, _, _, false, rfl, .ty "tuple", .base (.lst h1), kit_ty (by decide +kernel), _, rfl, iteT (iteT (fin _ _ (Ex.refl _) rfl))⟩
  | @tup n a xs ds h1 ha hl hz all =>
    refine ⟨_, rfl, _, _, _, _, true, rfl, .ty "tuple", tyT h1, kit_ty (by decide +kernel), _, rfl, iteF ?_⟩
    refine ⟨_, rfl, (by show 0 ≤ sizeLine; decide), fun e he => ?_⟩
    have n1 : Ex H (upd H e (.tup [])) := Ex.new he
    have hr1 := h0.ex n1
    have un : upd H e (.tup []) e = some (.tup []) := upd_same
    generalize upd H e (.tup []) = H1 at *
    refine ⟨.tuple ds, .tuple [], hr1.dp, .tup (SqT.of un) .nil, hr1.shaped (by omega), shaped0, ?_⟩
    match ds, hl, all, fin, hr1 with
    | [], _, _, fin, _ => exact ⟨_, rfl, iteT (fin _ _ n1 rfl)⟩
    | d0 :: r, hl, all, fin, hr1 =>
    refine ⟨_, rfl, iteF ?_⟩
    have hs1 := ex_t n1 h1
    have hb1 := ex_l n1 hb
    have he : ∀ (i : Nat) (x : V) (H2 : Hp), Ex H1 H2 → xs[i]? = some x → Ev (tAndV (tCall (spIsInteger K) [] E0 (tCons (tVar 2) tNil)) (tOp (rIn K false) (tVar 2) (tVar 1))) ((wipe (start ["value", "kinds", "kind"] [.ref a, .ref b]) [2]).set 2 (some x)) H2 (.bl (inD ks ((d0 :: r).getD i .none))) := by
      intro i x H2 e1 hx H3 e2 Q2 k2
      have hi := (List.getElem?_eq_some_iff.mp hx).1
      have hd : (d0 :: r)[i]? = some ((d0 :: r)[i]'(by omega)) := List.getElem?_eq_getElem _
      have rr := (all i x _ hx hd).ex ((n1.trans e1).trans e2)
      have g : (d0 :: r).getD i .none = (d0 :: r)[i]'(by omega) := by rw [List.getD_eq_getElem?_getD, hd]; rfl
      rw [g] at k2
      generalize (d0 :: r)[i]'(by omega) = dd at rr k2
      refine ⟨_, rfl, _, rfl, rr.dat, _, rfl, ?_⟩
      cases rr with
      | int z =>
        refine iteT ⟨_, rfl, _, rfl, b, _, rfl, .inl (ex_l (e1.trans e2) hb1), rfl, flat_ints, ?_⟩
        rw [if_neg (by decide), inV_ints]
        exact k2 H3 (Ex.refl _)
      | non => exact iteF (k2 H3 (Ex.refl _))
      | bl _ => exact iteF (k2 H3 (Ex.refl _))
      | str _ _ _ => exact iteF (k2 H3 (Ex.refl _))
      | lst _ _ _ _ _ => exact iteF (k2 H3 (Ex.refl _))
      | tup _ _ _ _ _ => exact iteF (k2 H3 (Ex.refl _))
    refine (el_lcT (t := tYes) (tl := tVar 0) (te := tAndV (tCall (spIsInteger K) [] E0 (tCons (tVar 2) tNil)) (tOp (rIn K false) (tVar 2) (tVar 1))) (j := 2) (σ := start ["value", "kinds", "kind"] [.ref a, .ref b]) (vs := [2]) (fun _ => true) (fun i => .bl (inD ks ((d0 :: r).getD i .none))) (ev_var rfl) hs1 (by omega) (fun _ => rfl) (fun i x H1 _ _ H2 _ Q k => k H2 (Ex.refl _)) (fun i x H2 e1 hx _ => he i x H2 e1 hx)) H1 (Ex.refl _) (fun v H2 => rAll K [v] H2 fun x H' => ∃ c, x = .bl c ∧ (if (!c) = true then Q (.bl false) H' else tCall (spAsc K) [] E0 (tCons (tVar 0) tNil) (start ["value", "kinds", "kind"] [.ref a, .ref b]) H' Q)) fun p H2 hp e2 h2 => ?_
    rw [given_all] at h2
    have e : (List.range xs.length).map (fun i => V.bl (inD ks ((d0 :: r).getD i .none))) = ((d0 :: r).map (inD ks)).map V.bl := by
      apply List.ext_getElem?
      intro i
      rw [List.getElem?_map, List.getElem?_map, List.getElem?_map]
      by_cases c : i < xs.length
      · rw [List.getElem?_range c, List.getElem?_eq_getElem (show i < (d0 :: r).length by omega)]
        simp [List.getD_eq_getElem?_getD, List.getElem?_eq_getElem (show i < (d0 :: r).length by omega)]
      · rw [List.getElem?_eq_none (by rw [List.length_range]; omega), List.getElem?_eq_none (show (d0 :: r).length ≤ i by omega)]
        rfl
    rw [e] at h2
    refine ⟨p, (d0 :: r).map (inD ks), rfl, SqL.of h2, _, rfl, ?_⟩
    rw [List.all_map]
    cases al : (d0 :: r).all (inD ks) with
    | false =>
      rw [show (d0 :: r).all (id ∘ inD ks) = false from al]
      exact iteT (fin _ _ (n1.trans e2) (by show (!(d0 :: r).isEmpty && (d0 :: r).all (inD ks) && ascD (d0 :: r)) = false; rw [al]; rfl))
    | true =>
      rw [show (d0 :: r).all (id ∘ inD ks) = true from al]
      have al2 : (d0 :: r).all (betwD 1 64) = true := List.all_eq_true.mpr fun z hz => by
        have := List.all_eq_true.mp al z hz
        cases z with
        | int i => exact decide_eq_true (hk i (of_decide_eq_true this))
        | none => cases this
        | bool _ => cases this
        | str _ => cases this
        | list _ => cases this
        | tuple _ => cases this
        | dict _ => cases this
      exact iteF ⟨_, rfl, .ref a, .tuple (d0 :: r), n + 1, ok, rfl, hr1.ex e2, rfl, al2, fun H3 e3 => fin _ _ ((n1.trans e2).trans e3) (by show (!(d0 :: r).isEmpty && (d0 :: r).all (inD ks) && ascD (d0 :: r)) = ascD (d0 :: r); rw [al]; rfl)⟩
end
end L2.U


set_option Elab.async false
set_option linter.all false
set_option maxRecDepth 100000
set_option maxHeartbeats 4000000
namespace L2.U
open PySem PySem.Spec PyProof.Rows Evl
section
variable {P : Program} {w : World} {K : PySem.W.Frag} {mg : Str → Option Value} {base : Heap}
def intD : PyData → Int
  | .int i => i
  | _ => 0
def intsOf : PyData → List Int
  | .tuple ds => ds.map intD
  | .list ds => ds.map intD
  | _ => []
def roundsL : List Int → List PyData → Int → Bool
  | _, [], _ => true
  | ks, d :: r, g => chosenD ks d && roundsL (behindI ks (intsOf d) g) r g
def roundsD (ks : List Int) (g : Int) : PyData → Bool
  | .tuple ds => roundsL ks ds g
  | _ => false
theorem roundsL_cons {ks : List Int} {d : PyData} {r : List PyData} {g : Int} : roundsL ks (d :: r) g = (chosenD ks d && roundsL (behindI ks (intsOf d) g) r g) := rfl
theorem behind_sub {ks cs : List Int} {g : Int} : ∀ z ∈ behindI ks cs g, z ∈ ks := fun z hz => (List.mem_filter.mp (List.mem_of_mem_drop hz)).1
theorem behind_len {ks cs : List Int} {g : Int} : (behindI ks cs g).length ≤ ks.length := Nat.le_trans (by unfold behindI; rw [List.length_drop]; omega) (List.length_filter_le (fun z => !decide (z ∈ cs)) ks)
theorem chosen_ints {ok : Addr → Prop} {H : Hp} {n : Nat} {x : V} {d : PyData} {ks : List Int} (h : Rd K ok H n x d) (c : chosenD ks d = true) : ∃ a, x = .ref a ∧ SqT K H a ((intsOf d).map V.int) := by
  cases h with
  | @tup n a xs ds h1 ha hl hz all =>
    have c' : (!ds.isEmpty && ds.all (inD ks) && ascD ds) = true := c
    simp only [Bool.and_eq_true] at c'
    refine ⟨a, rfl, ?_⟩
    have e : xs = (ds.map intD).map V.int := by
      apply List.ext_getElem?
      intro i
      rw [List.getElem?_map, List.getElem?_map]
      by_cases hi : i < xs.length
      · have hd : ds[i]? = some (ds[i]'(by omega)) := List.getElem?_eq_getElem _
        have r := all i _ _ (List.getElem?_eq_getElem hi) hd
        have m := List.all_eq_true.mp c'.1.2 _ (List.getElem_mem (show i < ds.length by omega))
        rw [hd, List.getElem?_eq_getElem hi]
        generalize ds[i]'(by omega) = dd at r m
        generalize xs[i] = xx at r
        cases r with
        | int z => rfl
        | non => cases m
        | bl _ => cases m
        | str _ _ _ => cases m
        | lst _ _ _ _ _ => cases m
        | tup _ _ _ _ _ => cases m
      · rw [List.getElem?_eq_none (by omega), List.getElem?_eq_none (show ds.length ≤ i by omega)]; rfl
    rw [show intsOf (.tuple ds) = ds.map intD from rfl, ← e]
    exact h1
  | non => cases c
  | bl _ => cases c
  | int _ => cases c
  | str _ _ _ => cases c
  | lst _ _ _ _ _ => cases c
def spRounds (K : PySem.W.Frag) : Sp := fun vs H Q _ => ∃ (x : V) (d : PyData) (n : Nat) (ok : Addr → Prop) (b : Addr) (ks : List Int) (g : Int), vs = [x, .ref b, .int g] ∧ RdA K ok H n x d ∧ n ≤ 20 ∧ (SqL K H b (ks.map V.int) ∨ SqT K H b (ks.map V.int)) ∧ ks.length ≤ 64 ∧ (∀ k ∈ ks, 1 ≤ k ∧ k ≤ 64) ∧ (g = 0 ∨ g = 1) ∧ ∀ H', Ex H H' → Q (.bl (roundsD ks g d)) H'
theorem ok_are_rounds (T : TA2 K mg) : FnOk P w K mg base CX0 5 T.are_rounds.a T.are_rounds.fd ["value", "kinds", "gap"] (spRounds K) := by
  refine T.are_rounds.F.ok sc_are_rounds (fun vs H Q E h => ?_) (fun cdv A outer s H vs Q E hr h => ?_)
  · obtain ⟨x, d, n, ok, b, ks, g, rfl, _⟩ := h; rfl
  obtain ⟨x, d, n, ok, b, ks, g, rfl, h, hn, hb, hk64, hk, hg, q⟩ := h
  refine ⟨_, (pss_cons (ps_if (pt_not (pt_val (pe_callB (kisi K) (by rfl) T.z_isinstance (by decide +kernel) (pa_cons (pv 0) (pa_cons (pe_bltn (v := .ty "tuple") rfl T.z_tuple (by decide +kernel) rfl) pa_nil))))) (pss_one (ps_ret pe_bl)) pss_nil)
    (pss_cons (ps_set (i := 3) sc_are_rounds.nd rfl (Or.inl rfl) (pe_callTy (klist K) (by rfl) T.z_list (by decide +kernel) (pa_cons (pv 1) pa_nil)))
    (pss_cons (ps_for PassesOwn.never rfl (kpit K (pv 0)) (pg_name (i := 4) sc_are_rounds.nd rfl (Or.inl rfl)) (pss_cons (ps_if (pt_not (pt_val (pe_call (ok_is_chosen T) (hr.mono (by decide)) rfl T.is_chosen.m T.is_chosen.F.kp T.is_chosen.b .nil pass0 (pa_cons (pv 4) (pa_cons (pv 3) pa_nil))))) (pss_one (ps_ret pe_bl)) pss_nil)
    (pss_one (ps_set (i := 3) sc_are_rounds.nd rfl (Or.inl rfl) (pe_call (ok_behind T) (hr.mono (by decide)) rfl T.behind.m T.behind.F.kp T.behind.b .nil pass0 (pa_cons (pv 3) (pa_cons (pv 4) (pa_cons (pv 2) pa_nil))))))))
    (pss_one (ps_ret pe_bl))))), ?_⟩
  have fin : ∀ H' c, Ex H H' → roundsD ks g d = c → Q (.bl c) H' := fun H' c e hc => hc ▸ q H' e
  rcases h with h | ⟨a, rfl, rfl, _, hd⟩
  case inr => exact ⟨_, rfl, _, _, _, _, false, rfl, .ty "tuple", .base (.dK hd), kit_ty (by decide +kernel), _, rfl, iteT (fin _ _ (Ex.refl _) rfl)⟩
  cases h with
  | non => exact ⟨_, rfl, _, _, _, _, false, rfl, .ty "tuple", .base .non, kit_ty (by decide +kernel), _, rfl, iteT (fin _ _ (Ex.refl _) rfl)⟩
  | bl c => exact ⟨_, rfl, _, _, _, _, false, rfl, .ty "tuple", .base (.bl c), kit_ty (by decide +kernel), _, rfl, iteT (fin _ _ (Ex.refl _) rfl)⟩
  | int i => exact ⟨_, rfl, _, _, _, _, false, rfl, .ty "tuple", .base (.int i), kit_ty (by decide +kernel), _, rfl, iteT (fin _ _ (Ex.refl _) rfl)⟩
  | str z _ _ => exact ⟨_, rfl, _, _, _, _, false, rfl, .ty "tuple", .base (.str z), kit_ty (by decide +kernel), _, rfl, iteT (fin _ _ (Ex.refl _) rfl)⟩
  | lst h1 => exact ⟨_, rfl, _, _, _, _, false, rfl, .ty "tuple", .base (.lst h1), kit_ty (by decide +kernel), _, rfl, iteT (fin _ _ (Ex.refl _) rfl)⟩
  | @tup n a xs ds h1 ha hl hz all =>
    refine ⟨_, rfl, _, _, _, _, true, rfl, .ty "tuple", tyT h1, kit_ty (by decide +kernel), _, rfl, iteF ?_⟩
    refine ⟨_, rfl, b, _, rfl, hb, fun l hl0 => ?_⟩
    have n1 : Ex H (upd H l (.lst (ks.map V.int))) := Ex.new hl0
    refine ⟨_, rfl, a, rfl, ⟨_, ex_t n1 h1⟩, for_tup (xs := xs) (fun i σ H' => Ex H H' ∧ ∃ l ls v, σ = [some (.ref a), some (.ref b), some (.int g), some (.ref l), v] ∧ H' l = some (.lst (ls.map V.int)) ∧ ls.length ≤ 64 ∧ (∀ k ∈ ls, 1 ≤ k ∧ k ≤ 64) ∧ roundsL ks ds g = roundsL ls (ds.drop i) g)
      ⟨n1, l, ks, _, rfl, upd_same, hk64, hk, rfl⟩ (fun i σ H' _ h => ex_t h.1 h1) ?_ ?_⟩
    · rintro i x σ H' hx ⟨e, l, ls, v, rfl, hl2, h64, hls, hm⟩
      have hi := (List.getElem?_eq_some_iff.mp hx).1
      have hd : ds[i]? = some (ds[i]'(by omega)) := List.getElem?_eq_getElem _
      have r := (all i x _ hx hd).ex e
      rw [← List.getElem_cons_drop (show i < ds.length by omega), roundsL_cons] at hm
      generalize ds[i]'(by omega) = dd at r hm
      refine ⟨_, rfl, _, rfl, x, dd, n, ok, l, ls, rfl, r, by omega, SqL.of hl2, hls, fun H2 e2 => ⟨_, rfl, ?_⟩⟩
      cases c : chosenD ls dd with
      | false =>
        rw [c, Bool.false_and] at hm
        exact iteT (fin _ _ (e.trans e2) hm)
      | true =>
        rw [c, Bool.true_and] at hm
        obtain ⟨a', rfl, hc⟩ := chosen_ints (r.ex e2) c
        exact iteF ⟨_, rfl, _, rfl, _, rfl, l, a', ls, intsOf dd, g, rfl, .inl (SqL.of (e2 _ _ hl2)), hc, h64, hg, fun p H3 e3 _ hp => ⟨(e.trans e2).trans e3, p, behindI ls (intsOf dd) g, _, rfl, hp, Nat.le_trans behind_len h64, fun k hk => hls k (behind_sub k hk), hm⟩⟩
    · rintro σ H' ⟨e, l, ls, v, rfl, _, _, _, hm⟩
      refine fin _ _ e ?_
      show roundsL ks ds g = true
      rw [hm, List.drop_eq_nil_of_le (by omega)]
      rfl
end
end L2.U


set_option Elab.async false
set_option linter.all false
set_option maxRecDepth 100000
set_option maxHeartbeats 4000000
namespace L2.U
open PySem PySem.Spec PyProof.Rows Evl
section
variable {P : Program} {w : World} {K : PySem.W.Frag} {mg : Str → Option Value} {base : Heap}
theorem seq_ints {ok : Addr → Prop} {H : Hp} {n : Nat} {x : V} {d : PyData} {p : PyData → Bool} (h : Rd K ok H n x d) (sq : isSeq d = true) (al : (itemsD d).all p = true) (hp : ∀ e, p e = true → ∃ i, e = .int i) :
    ∃ a, x = .ref a ∧ (SqL K H a (((itemsD d).map intD).map V.int) ∨ SqT K H a (((itemsD d).map intD).map V.int)) := by
  obtain ⟨a, xs, rfl, hs, hl, hz, all⟩ := rd_seq h sq
  have e : xs = ((itemsD d).map intD).map V.int := by
    apply List.ext_getElem?
    intro i
    rw [List.getElem?_map, List.getElem?_map]
    by_cases hi : i < xs.length
    · have hd : (itemsD d)[i]? = some ((itemsD d)[i]'(by omega)) := List.getElem?_eq_getElem _
      have r := all i _ _ (List.getElem?_eq_getElem hi) hd
      obtain ⟨z, ez⟩ := hp _ (List.all_eq_true.mp al _ (List.getElem_mem (show i < (itemsD d).length by omega)))
      rw [hd, List.getElem?_eq_getElem hi]
      rw [ez] at r ⊢
      generalize xs[i] = xx at r
      generalize n - 1 = nn at r
      cases r with
      | int z => rfl
    · rw [List.getElem?_eq_none (by omega), List.getElem?_eq_none (show (itemsD d).length ≤ i by omega)]; rfl
  rw [← e]
  exact ⟨a, rfl, hs.imp (fun z => z.1) (fun z => z.1)⟩
theorem from_int {lo : Int} : ∀ e, fromD lo e = true → ∃ i, e = .int i := fun e h => by cases e <;> first | exact ⟨_, rfl⟩ | cases h
theorem betw_isint {lo hi : Int} : ∀ e, betwD lo hi e = true → ∃ i, e = .int i := fun e h => by cases e <;> first | exact ⟨_, rfl⟩ | cases h
def numsD (d : PyData) : List Int := (itemsD d).map intD
theorem kinds_get {ok : Addr → Prop} {H : Hp} {n : Nat} {x : V} {d : PyData} (h : Rd K ok H n x d) (c : kindsD d = true) : ∃ a, x = .ref a ∧ (SqL K H a ((numsD d).map V.int) ∨ SqT K H a ((numsD d).map V.int)) ∧ (numsD d).length ≤ 16 ∧ ∀ k ∈ numsD d, 1 ≤ k ∧ k ≤ 64 := by
  unfold kindsD at c
  simp only [Bool.and_eq_true] at c
  obtain ⟨⟨⟨c1, c2⟩, c3⟩, c4⟩ := c
  obtain ⟨a, e, hs⟩ := seq_ints h c1 c3 betw_isint
  refine ⟨a, e, hs, by unfold numsD; rw [List.length_map]; exact of_decide_eq_true c2, fun k hk => ?_⟩
  obtain ⟨y, hy, rfl⟩ := List.mem_map.mp hk
  have := List.all_eq_true.mp c3 y hy
  obtain ⟨i, rfl⟩ := betw_isint y this
  exact of_decide_eq_true this
theorem sizes_get {ok : Addr → Prop} {H : Hp} {n : Nat} {x : V} {d : PyData} (h : Rd K ok H n x d) (c : sizesD d = true) : ∃ a, x = .ref a ∧ (SqL K H a ((numsD d).map V.int) ∨ SqT K H a ((numsD d).map V.int)) ∧ (numsD d).length ≤ 16 ∧ ∀ k ∈ numsD d, 1 ≤ k := by
  unfold sizesD at c
  simp only [Bool.and_eq_true] at c
  obtain ⟨⟨c1, c2⟩, c3⟩ := c
  obtain ⟨a, e, hs⟩ := seq_ints h c1 c3 from_int
  refine ⟨a, e, hs, by unfold numsD; rw [List.length_map]; exact of_decide_eq_true c2, fun k hk => ?_⟩
  obtain ⟨y, hy, rfl⟩ := List.mem_map.mp hk
  have := List.all_eq_true.mp c3 y hy
  obtain ⟨i, rfl⟩ := from_int y this
  exact of_decide_eq_true this
theorem kinds_seq {d : PyData} (c : kindsD d = true) : isSeq d = true := by
  unfold kindsD at c
  simp only [Bool.and_eq_true] at c
  exact c.1.1.1
theorem sizes_seq {d : PyData} (c : sizesD d = true) : isSeq d = true := by
  unfold sizesD at c
  simp only [Bool.and_eq_true] at c
  exact c.1.1
def rankD (g : Int) (dx dy dz : PyData) : Bool := betwD 0 (manyI ((numsD dy).length : Int) (numsD dz) g - 1) dx
def spCheckRank (K : PySem.W.Frag) (CK CS CR : Addr) : Sp := fun vs H Q E => ∃ (x y z : V) (dx dy dz : PyData) (n : Nat) (ok : Addr → Prop) (g : Int), vs = [x, y, z, .int g] ∧ RdA K ok H n x dx ∧ RdA K ok H n y dy ∧ RdA K ok H n z dz ∧ (g = 0 ∨ g = 1) ∧
  (kindsD dy = true → sizesD dz = true → rankD g dx dy dz = true → ∀ H', Ex H H' → Q .non H') ∧
  (kindsD dy = false → ∀ e H', Ex H H' → H' e = some (.xd [("given", y)]) → E (.ref CK) (some e) H') ∧
  (kindsD dy = true → sizesD dz = false → ∀ e H', Ex H H' → H' e = some (.xd [("given", z)]) → E (.ref CS) (some e) H') ∧
  (kindsD dy = true → sizesD dz = true → rankD g dx dy dz = false → ∀ e H', Ex H H' → H' e = some (.xd [("given", x)]) → E (.ref CR) (some e) H')
theorem ok_check_rank (T : TA2 K mg) : FnOk P w K mg base (L2.CX P w) 6 T.check_rank.a T.check_rank.fd ["rank", "kinds", "sizes", "gap"] (spCheckRank K T.InvalidKinds.C T.InvalidSizes.C T.InvalidRank.C) := by
  refine T.check_rank.F.okX sc_check_rank (fun vs H Q E h => ?_) (fun cdv A outer s H vs Q E hr h => ?_)
  · obtain ⟨x, y, z, dx, dy, dz, n, ok, g, rfl, _⟩ := h; rfl
  obtain ⟨x, y, z, dx, dy, dz, n, ok, g, rfl, hx, hy, hz, hg, q, qk, qs, qr⟩ := h
  refine ⟨_, (pss_cons (ps_expr (by exact (pe_callS (ok_check_kinds T) (hr.mono (by decide)) rfl T.check_kinds.m T.check_kinds.F.kp T.check_kinds.b (fun σ => passAt (takes_of rfl rfl rfl rfl) σ) (pa_cons (pv 1) pa_nil))))
    (pss_cons (ps_expr (by exact (pe_callS (ok_check_sizes T) (hr.mono (by decide)) rfl T.check_sizes.m T.check_sizes.F.kp T.check_sizes.b (fun σ => passAt (takes_of rfl rfl rfl rfl) σ) (pa_cons (pv 2) pa_nil))))
    (pss_one (ps_if (pt_not (pt_val (pe_call (ok_is_between T.toTA1) (hr.mono (by decide)) rfl T.is_between.m T.is_between.F.kp T.is_between.b .nil pass0 (pa_cons (pv 0) (pa_cons pe_int (pa_cons (pe_op op_sub (pe_call (ok_many T) (hr.mono (by decide)) rfl T.many.m T.many.F.kp T.many.b .nil pass0 (pa_cons (pe_callB (klen K) (by rfl) T.z_len (by decide +kernel) (pa_cons (pv 1) pa_nil)) (pa_cons (pv 2) (pa_cons (pv 3) pa_nil)))) pe_int) pa_nil)))))) (pss_one (ps_raise rfl (takes_of rfl rfl rfl rfl) (pmk_oex T.InvalidRank.T T.InvalidRank.iC T.InvalidRank.tI (ok_init_InvalidRank T.InvalidRank) (hr.mono (by decide)) T.InvalidRank.b .nil pass0 rfl T.InvalidRank.gC (by exact (pa_cons (pv 0) pa_nil))))) pss_nil)))), ?_⟩
  refine ⟨_, rfl, y, dy, n, ok, rfl, hy, fun ck H1 e1 => ?_, fun c e H' ex he => qk c e H' ex he⟩
  refine ⟨_, rfl, z, dz, n, ok, rfl, hz.ex e1, fun cs H2 e2 => ?_, fun c e H' ex he => qs ck c e H' (e1.trans ex) he⟩
  have e12 := e1.trans e2
  obtain ⟨a, rfl, ha, hl, hk⟩ := kinds_get ((hy.ex e12).rd (kinds_seq ck)) ck
  obtain ⟨b, rfl, hb, hl2, hk2⟩ := sizes_get ((hz.ex e12).rd (sizes_seq cs)) cs
  have hr2 := hx.ex e12
  refine ⟨_, rfl, _, rfl, _, _, rfl, (ha.imp (fun z => ⟨_, z, rfl⟩) (fun z => ⟨_, z, rfl⟩)), _, rfl, _, rfl, (((numsD dy).map V.int).length : Int), g, b, numsD dz, rfl, hb, by rw [List.length_map]; omega, by omega, hk2, _, _, rfl, rfl, ?_⟩
  refine ⟨_, _, _, rfl, hr2.dat, fun bb h1 h2 => ⟨bb, rfl, ?_⟩⟩
  have hbb := rda_betw hr2 h1 h2
  have hbb2 : bb = rankD g dx dy dz := by rw [hbb]; unfold rankD; rw [List.length_map]
  subst hbb2
  cases c : rankD g dx dy dz with
  | true => exact iteF (q ck cs c _ e12)
  | false => exact iteT ⟨_, rfl, (by show 1 ≤ 1000; decide), fun a ha => raised ha fun e H' ex he => qr ck cs c e H' (e12.trans ex) he⟩
def spCheckRounds (K : PySem.W.Frag) (CK CR : Addr) : Sp := fun vs H Q E => ∃ (x y : V) (dx dy : PyData) (n : Nat) (ok : Addr → Prop) (g : Int), vs = [x, y, .int g] ∧ RdA K ok H n x dx ∧ RdA K ok H n y dy ∧ n ≤ 20 ∧ (g = 0 ∨ g = 1) ∧
  (kindsD dy = true → roundsD (numsD dy) g dx = true → ∀ H', Ex H H' → Q .non H') ∧
  (kindsD dy = false → ∀ e H', Ex H H' → H' e = some (.xd [("given", y)]) → E (.ref CK) (some e) H') ∧
  (kindsD dy = true → roundsD (numsD dy) g dx = false → ∀ e H', Ex H H' → H' e = some (.xd [("given", x)]) → E (.ref CR) (some e) H')
theorem ok_check_rounds (T : TA2 K mg) : FnOk P w K mg base (L2.CX P w) 6 T.check_rounds.a T.check_rounds.fd ["rounds", "kinds", "gap"] (spCheckRounds K T.InvalidKinds.C T.InvalidRounds.C) := by
  refine T.check_rounds.F.okX sc_check_rounds (fun vs H Q E h => ?_) (fun cdv A outer s H vs Q E hr h => ?_)
  · obtain ⟨x, y, dx, dy, n, ok, g, rfl, _⟩ := h; rfl
  obtain ⟨x, y, dx, dy, n, ok, g, rfl, hx, hy, hn, hg, q, qk, qr⟩ := h
  refine ⟨_, (pss_cons (ps_expr (by exact (pe_callS (ok_check_kinds T) (hr.mono (by decide)) rfl T.check_kinds.m T.check_kinds.F.kp T.check_kinds.b (fun σ => passAt (takes_of rfl rfl rfl rfl) σ) (pa_cons (pv 1) pa_nil))))
    (pss_one (ps_if (pt_not (pt_val (pe_call (ok_are_rounds T) (hr.mono (by decide)) rfl T.are_rounds.m T.are_rounds.F.kp T.are_rounds.b .nil pass0 (pa_cons (pv 0) (pa_cons (pv 1) (pa_cons (pv 2) pa_nil)))))) (pss_one (ps_raise rfl (takes_of rfl rfl rfl rfl) (pmk_oex T.InvalidRounds.T T.InvalidRounds.iC T.InvalidRounds.tI (ok_init_InvalidRounds T.InvalidRounds) (hr.mono (by decide)) T.InvalidRounds.b .nil pass0 rfl T.InvalidRounds.gC (by exact (pa_cons (pv 0) pa_nil))))) pss_nil))), ?_⟩
  refine ⟨_, rfl, y, dy, n, ok, rfl, hy, fun ck H1 e1 => ?_, fun c e H' ex he => qk c e H' ex he⟩
  obtain ⟨a, rfl, ha, hl, hk⟩ := kinds_get ((hy.ex e1).rd (kinds_seq ck)) ck
  refine ⟨_, rfl, _, rfl, _, rfl, x, dx, n, ok, a, numsD dy, g, rfl, hx.ex e1, hn, ha, by omega, hk, hg, fun H2 e2 => ⟨_, rfl, ?_⟩⟩
  cases c : roundsD (numsD dy) g dx with
  | true => exact iteF (q ck c _ (e1.trans e2))
  | false => exact iteT ⟨_, rfl, (by show 1 ≤ 1000; decide), fun a ha => raised ha fun e H' ex he => qr ck c e H' ((e1.trans e2).trans ex) he⟩
end
end L2.U


set_option Elab.async false
set_option linter.all false
set_option maxRecDepth 100000
set_option maxHeartbeats 4000000
namespace L2.U
open PySem PySem.Spec PyProof.Rows Evl

section
variable {P : Program} {w : World} {K : PySem.W.Frag} {mg : Str → Option Value} {base : Heap}
section
variable {X : Cx}
theorem kslS (K : PySem.W.Frag) (h : X.K = K := by rfl) : SlR X (fun x lo hi H Q => rSlL K x lo hi H Q ∨ rSlA K x lo hi H Q) := SlR.or (kslL K h) (kslT K h)
end
/-! ### counting, to 16 -/
def Cn (n k : Nat) : Int := PySem.W.mcComb (n : Int) (k : Int)
theorem cn_pas : ∀ n : Fin 17, ∀ k : Fin 17, Cn (n.val + 1) (k.val + 1) = Cn n.val k.val + Cn n.val (k.val + 1) := by decide +kernel
theorem cn_zero : ∀ n : Fin 18, Cn n.val 0 = 1 := by decide +kernel
theorem cn_none : ∀ k : Fin 17, Cn 0 (k.val + 1) = 0 := by decide +kernel
theorem cn_pos : ∀ n : Fin 18, ∀ k : Fin 18, 0 ≤ Cn n.val k.val ∧ Cn n.val k.val < 2 ^ 30 ∧ (k.val ≤ n.val → 1 ≤ Cn n.val k.val) ∧ (n.val < k.val → Cn n.val k.val = 0) := by decide +kernel
def Fc : Nat → Int
  | 0 => 1
  | n + 1 => Fc n * ((n : Int) + 1)
theorem fc_all : ∀ c : Fin 17, ∀ s : Fin 17, s.val ≤ c.val → Cn c.val s.val * Fc (c.val - s.val) ≤ Fc c.val ∧ 1 ≤ Fc s.val ∧ Fc s.val ≤ Fc c.val := by decide +kernel
theorem fc_top : Fc 16 = 20922789888000 := by decide +kernel
theorem fc_mono {a b : Nat} (h : a ≤ b) (hb : b ≤ 16) : 1 ≤ Fc a ∧ Fc a ≤ Fc b := (fc_all ⟨b, by omega⟩ ⟨a, by omega⟩ h).2
theorem many_neg {c g : Int} {ns : List Int} (hc : c < 0) (h : ∀ z ∈ ns, 1 ≤ z) : manyI c ns g = manyI 0 ns g := by
  cases ns with
  | nil => rfl
  | cons s r =>
    have := h s List.mem_cons_self
    rw [manyI_cons, manyI_cons, if_pos (by omega), if_pos (by omega)]
theorem many_le {g : Int} (hg : 0 ≤ g) : ∀ (ns : List Int) (c : Nat), c ≤ 16 → (∀ z ∈ ns, 1 ≤ z) → 0 ≤ manyI (c : Int) ns g ∧ manyI (c : Int) ns g ≤ Fc c
  | [], c, hc, _ => ⟨by rw [manyI_nil]; decide, (fc_mono (Nat.le_refl _) hc).1⟩
  | s :: r, c, hc, h => by
    have hs := h s List.mem_cons_self
    rw [manyI_cons]
    have f := (fc_mono (Nat.le_refl c) hc).1
    by_cases q : (c : Int) < s
    · rw [if_pos q]; omega
    · rw [if_neg q]
      obtain ⟨t, rfl⟩ : ∃ t : Nat, s = (t : Int) := ⟨s.toNat, by omega⟩
      have e : manyI ((c : Int) - (t : Int) - g) r g = manyI ((((c : Int) - (t : Int) - g).toNat : Nat) : Int) r g := by
        by_cases q2 : (c : Int) - (t : Int) - g < 0
        · rw [many_neg q2 (fun z hz => h z (List.mem_cons_of_mem _ hz)), show ((c : Int) - (t : Int) - g).toNat = 0 by omega]; rfl
        · rw [Int.toNat_of_nonneg (by omega)]
      have ih := many_le hg r ((c : Int) - (t : Int) - g).toNat (by omega) (fun z hz => h z (List.mem_cons_of_mem _ hz))
      rw [e]
      have c1 := cn_pos ⟨c, by omega⟩ ⟨t, by omega⟩
      have c2 := fc_all ⟨c, by omega⟩ ⟨t, by omega⟩ (by show t ≤ c; omega)
      have c3 := fc_mono (show ((c : Int) - (t : Int) - g).toNat ≤ c - t by omega) (by omega)
      refine ⟨Int.mul_nonneg c1.1 ih.1, Int.le_trans (Int.mul_le_mul_of_nonneg_left (Int.le_trans ih.2 c3.2) c1.1) c2.1⟩
theorem log_small {i : Int} (h0 : 0 ≤ i) (h : i ≤ 20922789888000) : i.natAbs.log2 < 9000 := by
  by_cases z : i.natAbs = 0
  · rw [z]; decide
  · rw [Nat.log2_lt z]
    exact Nat.lt_of_lt_of_le (show i.natAbs < 2 ^ 64 by omega) (Nat.pow_le_pow_right (by decide) (by decide))
/-! ### one round -/
theorem for_enum2 {a : Addr} {xs : List V} {tb : TS} {D : Ends} {σ : L2.St} {H H0 : Hp} {p q : Nat} {ta : TA} (ea : ∀ R : List V → Hp → Prop, R [.ref a] H → ta σ H R) (hx : SqL K H0 a xs ∨ SqT K H0 a xs) (Pv : Nat → L2.St → Hp → Prop) (h0 : Pv 0 σ H)
    (hG : ∀ i σ H', i ≤ xs.length → Pv i σ H' → Ex H0 H')
    (hs : ∀ i x σ H' T, xs[i]? = some x → Pv i σ H' → H' T = none → tb { D with nx := Pv (i + 1), ct := Pv (i + 1), bk := D.nx } ((σ.set p (some (.int (i : Int)))).set q (some x)) (upd H' T (.tup [.int (i : Int), x]))) (hd : ∀ σ H, Pv xs.length σ H → D.nx σ H) :
    tFor (iEnumS K ta) (gTup K 2 (gCons (gName p) (gCons (gName q) gNil))) tb D σ H := by
  have turn : ∀ i v σ' H1 H2, i < xs.length → Pv i σ' H1 → YPair (fun i => some (V.int (i : Nat))) (fun i => xs[i]?) i H1 v H2 → gTup K 2 (gCons (gName p) (gCons (gName q) gNil)) v σ' H2 fun σ2 H3 => tb { D with nx := Pv (i + 1), ct := Pv (i + 1), bk := D.nx } σ2 H3 := by
    rintro i v σ' H1 H2 hi pv ⟨T, u, x, rfl, hT, rfl, h1, h2⟩
    cases Option.some.inj h1
    exact ⟨T, _, rfl, SqT.of upd_same, rfl, _, _, rfl, _, _, rfl, rfl, hs i x σ' H1 T h2 pv hT⟩
  have e0 := hG 0 σ H (Nat.zero_le _) h0
  rcases hx with hx | hx
  · exact .inl (ea _ ⟨a, xs, rfl, ex_l e0 hx, for_it walk_enum Pv h0 (fun i σ' H' hi pv => ex_l (hG i σ' H' hi pv) hx) turn hd⟩)
  · exact .inr (ea _ ⟨a, xs, rfl, ex_t e0 hx, for_it walk_enumT Pv h0 (fun i σ' H' hi pv => ex_t (hG i σ' H' hi pv) hx) turn hd⟩)
def spMC (K : PySem.W.Frag) : Sp := fun vs H Q _ => ∃ (a b : Addr) (ks cs : List Int), vs = [.ref a, .ref b] ∧ SqL K H a (ks.map V.int) ∧ SqT K H b (cs.map V.int) ∧ ks.length ≤ 64 ∧ cs.length ≤ 64 ∧ Q (.int (Cn ks.length cs.length)) H
theorem ok_many_chosen (T : TA2 K mg) : FnOk P w K mg base CX0 1 T.many_chosen.a T.many_chosen.fd ["kinds", "chosen"] (spMC K) := by
  refine T.many_chosen.F.ok sc_many_chosen (fun vs H Q E h => ?_) (fun cdv A outer s H vs Q E hr h => ?_)
  · obtain ⟨a, b, ks, cs, rfl, _⟩ := h; rfl
  obtain ⟨a, b, ks, cs, rfl, ha, hb, hk, hc, q⟩ := h
  refine ⟨_, (pss_one (ps_ret (pe_callBfun cr_comb rfl T.c_comb (pa_cons (pe_callB (klen K) (by rfl) T.z_len (by decide +kernel) (pa_cons (pv 0) pa_nil)) (pa_cons (pe_callB (klen K) (by rfl) T.z_len (by decide +kernel) (pa_cons (pv 1) pa_nil)) pa_nil))))), ?_⟩
  exact ⟨_, rfl, _, ks.length, rfl, .inl ⟨_, ha, by rw [List.length_map]⟩, _, rfl, _, cs.length, rfl, .inr ⟨_, hb, by rw [List.length_map]⟩, _, _, rfl, by omega, by omega, by omega, by omega, q⟩
theorem take_snoc {ks : List Int} {i : Nat} {z : Int} (h : ks[i]? = some z) : ks.take (i + 1) = ks.take i ++ [z] := by
  obtain ⟨hi, e⟩ := List.getElem?_eq_some_iff.mp h
  rw [← List.take_append_getElem hi, e]
def spChAt (K : PySem.W.Frag) : Sp := fun vs H Q _ => ∃ (r : Int) (a : Addr) (ks : List Int) (s : Nat), vs = [.int r, .ref a, .int (s : Int)] ∧ SqL K H a (ks.map V.int) ∧ ks.length ≤ 16 ∧ s ≤ 16 ∧ 0 ≤ r ∧ r < Cn ks.length s ∧
  ∀ (p : Addr) (cs : List Int) H', Ex H H' → H' p = some (.tup (cs.map V.int)) → cs.Sublist ks → cs.length = s → Q (.ref p) H'
theorem ok_chosen_at (T : TA2 K mg) : FnOk P w K mg base CX0 1 T.chosen_at.a T.chosen_at.fd ["rank", "kinds", "size"] (spChAt K) := by
  refine T.chosen_at.F.ok sc_chosen_at (fun vs H Q E h => ?_) (fun cdv A outer s H vs Q E hr h => ?_)
  · obtain ⟨r, a, ks, s, rfl, _⟩ := h; rfl
  obtain ⟨r, a, ks, s, rfl, ha, hk, hs, r0, r1, q⟩ := h
  refine ⟨_, (pss_cons (ps_set (i := 3) sc_chosen_at.nd rfl (Or.inl rfl) (pe_lst pa_nil))
    (pss_cons (ps_for PassesOwn.never rfl (pi_enumS (by rfl) T.z_enumerate (pa_cons (pv 1) pa_nil)) (pg_tup (by rfl) (pgs_cons (pg_name (i := 4) sc_chosen_at.nd rfl (Or.inl rfl)) (pgs_cons (pg_name (i := 5) sc_chosen_at.nd rfl (Or.inl rfl)) pgs_nil))) (pss_cons (ps_if (pt_cmpR op_eq (pe_callB (klen K) (by rfl) T.z_len (by decide +kernel) (pa_cons (pv 3) pa_nil)) (pv 2) (nomark _)) (pss_one (ps_break)) pss_nil)
    (pss_cons (ps_set (i := 6) sc_chosen_at.nd rfl (Or.inl rfl) (pe_callBfun cr_comb rfl T.c_comb (pa_cons (pe_op op_sub (pe_op op_sub (pe_callB (klen K) (by rfl) T.z_len (by decide +kernel) (pa_cons (pv 1) pa_nil)) (pv 4)) pe_int) (pa_cons (pe_op op_sub (pe_op op_sub (pv 2) (pe_callB (klen K) (by rfl) T.z_len (by decide +kernel) (pa_cons (pv 3) pa_nil))) pe_int) pa_nil))))
    (pss_one (ps_if (pt_cmpR op_lt (pv 0) (pv 6) (nomark _)) (pss_one (ps_expr (pe_bm PySem.F.plainAttrs_list PySem.F.slot_list_append PySem.F.type_list_append mt_append (pv 3) (pa_cons (pv 5) pa_nil)))) (pss_one (ps_aug (i := 0) sc_chosen_at.nd rfl (Or.inl rfl) (pv 6) ip_sub)))))))
    (pss_one (ps_ret (pe_callTy (ktuple K) (by rfl) T.z_tuple (by decide +kernel) (pa_cons (pv 3) pa_nil)))))), ?_⟩
  refine ⟨Nat.zero_le _, fun D hD => ?_⟩
  have fin : ∀ (cs : List Int) H', Ex H H' → H' D = some (.lst (cs.map V.int)) → cs.Sublist ks → cs.length = s → ∀ σ : L2.St, σ[3]? = some (some (.ref D)) → tRet (tCB (rTupOf K) (tCons (tVar 3) tNil)) { nx := fun _ H' => Q .non H', rt := Q } σ H' :=
    fun cs H' e hd sub hl σ hσ => ⟨_, hσ, D, _, rfl, .inl ⟨SqL.of hd, fun l hl2 => q l cs _ (e.trans (Ex.new hl2)) upd_same sub hl⟩⟩
  refine for_enum2 (p := 4) (q := 5) (H0 := H) (xs := ks.map V.int) (fun R r => ⟨_, rfl, r⟩) (.inl ha)
    (fun i σ H' => Ex H H' ∧ ∃ (cs : List Int) (rr : Int) (x4 x5 x6 : Option V), H' D = some (.lst (cs.map V.int)) ∧ cs.Sublist (ks.take i) ∧ cs.length ≤ s ∧ 0 ≤ rr ∧ rr < Cn (ks.length - i) (s - cs.length) ∧ σ = [some (.int rr), some (.ref a), some (.int (s : Int)), some (.ref D), x4, x5, x6])
    ⟨Ex.new hD, [], r, _, _, _, upd_same, List.nil_sublist _, Nat.zero_le _, r0, r1, rfl⟩ (fun i σ H' _ p => p.1) ?_ ?_
  · rintro i x σ H' t hx ⟨e, cs, rr, x4, x5, x6, hd, sub, hl, rr0, rr1, rfl⟩ ht
    obtain ⟨z, hz, rfl⟩ := ints_get hx
    have hi := (List.getElem?_eq_some_iff.mp hz).1
    have e1 := e.trans (Ex.new (o := .tup [.int (i : Int), .int z]) ht)
    have hd1 := (Ex.new (o := .tup [.int (i : Int), .int z]) ht) _ _ hd
    refine ⟨_, rfl, _, cs.length, rfl, .inl ⟨_, SqL.of hd1, by rw [List.length_map]⟩, _, rfl, rfl, _, rfl, ite2 (fun c => ?_) (fun c => ?_)⟩
    · have c' : ((cs.length : Nat) : Int) = (s : Int) := V.int.inj (of_decide_eq_true c)
      exact fin cs _ e1 hd1 (sub.trans (List.take_sublist _ _)) (by omega) _ rfl
    · have c' : cs.length ≠ s := fun z => c (by rw [z]; exact decide_eq_true rfl)
      refine ⟨_, rfl, _, ks.length, rfl, .inl ⟨_, ex_l e1 ha, by rw [List.length_map]⟩, _, rfl, _, _, rfl, rfl, _, _, rfl, rfl, _, rfl, _, rfl, _, cs.length, rfl, .inl ⟨_, SqL.of hd1, by rw [List.length_map]⟩, _, _, rfl, rfl, _, _, rfl, rfl, _, _, rfl, by omega, by omega, by omega, by omega, ?_⟩
      have ec : PySem.W.mcComb ((ks.length : Int) - (i : Int) - 1) ((s : Int) - (cs.length : Int) - 1) = Cn (ks.length - i - 1) (s - cs.length - 1) := by
        unfold Cn
        congr 1 <;> omega
      rw [ec]
      have pas := cn_pas ⟨ks.length - i - 1, by omega⟩ ⟨s - cs.length - 1, by omega⟩
      simp only at pas
      rw [show ks.length - i - 1 + 1 = ks.length - i by omega, show s - cs.length - 1 + 1 = s - cs.length by omega] at pas
      refine ⟨_, rfl, _, rfl, _, _, rfl, rfl, _, rfl, ite2 (fun d => ?_) (fun d => ?_)⟩
      · have d' := of_decide_eq_true d
        refine ⟨_, rfl, .inl ⟨rfl, _, SqL.of hd1⟩, _, rfl, D, _, _, rfl, rfl, hd1, small1000 (by rw [List.length_map]; omega), e1.mut hD, cs ++ [z], rr, _, _, _, ?_, ?_, by rw [List.length_append, List.length_singleton]; omega, rr0, ?_, rfl⟩
        · rw [upd_same, List.map_append]; rfl
        · rw [take_snoc hz]
          exact sub.append (List.Sublist.refl _)
        · rw [List.length_append, List.length_singleton, show ks.length - (i + 1) = ks.length - i - 1 by omega, show s - (cs.length + 1) = s - cs.length - 1 by omega]
          exact d'
      · have d' := of_decide_eq_false (Bool.eq_false_iff.mpr d)
        refine ⟨_, rfl, _, rfl, _, _, rfl, rfl, e1, cs, rr - Cn (ks.length - i - 1) (s - cs.length - 1), _, _, _, hd1, ?_, hl, by omega, ?_, rfl⟩
        · rw [take_snoc hz]
          exact sub.trans (List.sublist_append_left _ _)
        · rw [show ks.length - (i + 1) = ks.length - i - 1 by omega]
          omega
  · rintro σ H' ⟨e, cs, rr, x4, x5, x6, hd, sub, hl, rr0, rr1, rfl⟩
    rw [List.length_map] at sub rr1
    rw [List.take_length] at sub
    have : cs.length = s := by
      by_cases c : cs.length = s
      · exact c
      · exfalso
        have n := cn_none ⟨s - cs.length - 1, by omega⟩
        simp only at n
        rw [show s - cs.length - 1 + 1 = s - cs.length by omega] at n
        rw [Nat.sub_self, n] at rr1
        omega
    exact fin cs _ e hd sub this _ rfl
def spChRk (K : PySem.W.Frag) : Sp := fun vs H Q _ => ∃ (a b : Addr) (ks cs : List Int), vs = [.ref b, .ref a] ∧ SqL K H a (ks.map V.int) ∧ SqT K H b (cs.map V.int) ∧ ks.length ≤ 16 ∧ cs.length ≤ ks.length ∧ ∀ r H', Ex H H' → 0 ≤ r → r ≤ Cn ks.length cs.length → Q (.int r) H'
theorem ok_chosen_rank (T : TA2 K mg) : FnOk P w K mg base CX0 1 T.chosen_rank.a T.chosen_rank.fd ["chosen", "kinds"] (spChRk K) := by
  refine T.chosen_rank.F.ok sc_chosen_rank (fun vs H Q E h => ?_) (fun cdv A outer s H vs Q E hr h => ?_)
  · obtain ⟨a, b, ks, cs, rfl, _⟩ := h; rfl
  obtain ⟨a, b, ks, cs, rfl, ha, hb, hk, hc, q⟩ := h
  refine ⟨_, (pss_cons (ps_set (i := 2) sc_chosen_rank.nd rfl (Or.inl rfl) pe_int)
    (pss_cons (ps_set (i := 3) sc_chosen_rank.nd rfl (Or.inl rfl) pe_int)
    (pss_cons (ps_for PassesOwn.never rfl (pi_enumS (by rfl) T.z_enumerate (pa_cons (pv 1) pa_nil)) (pg_tup (by rfl) (pgs_cons (pg_name (i := 4) sc_chosen_rank.nd rfl (Or.inl rfl)) (pgs_cons (pg_name (i := 5) sc_chosen_rank.nd rfl (Or.inl rfl)) pgs_nil))) (pss_cons (ps_if (pt_cmpR op_eq (pv 3) (pe_callB (klen K) (by rfl) T.z_len (by decide +kernel) (pa_cons (pv 0) pa_nil)) (nomark _)) (pss_one (ps_break)) pss_nil)
    (pss_one (ps_if (pt_cmpR op_eq (pv 5) (pe_ix (kixt K) (pv 0) (pv 3) (fun _ _ => rfl)) (nomark _)) (pss_one (ps_aug (i := 3) sc_chosen_rank.nd rfl (Or.inl rfl) pe_int ip_add)) (pss_one (ps_aug (i := 2) sc_chosen_rank.nd rfl (Or.inl rfl) (pe_callBfun cr_comb rfl T.c_comb (pa_cons (pe_op op_sub (pe_op op_sub (pe_callB (klen K) (by rfl) T.z_len (by decide +kernel) (pa_cons (pv 1) pa_nil)) (pv 4)) pe_int) (pa_cons (pe_op op_sub (pe_op op_sub (pe_callB (klen K) (by rfl) T.z_len (by decide +kernel) (pa_cons (pv 0) pa_nil)) (pv 3)) pe_int) pa_nil))) ip_add))))))
    (pss_one (ps_ret (pv 2)))))), ?_⟩
  refine for_enum2 (p := 4) (q := 5) (H0 := H) (xs := ks.map V.int) (fun R r => ⟨_, rfl, r⟩) (.inl ha)
    (fun i σ H' => Ex H H' ∧ ∃ (f : Nat) (rr : Int) (x4 x5 : Option V), f ≤ cs.length ∧ 0 ≤ rr ∧ rr + Cn (ks.length - i) (cs.length - f) ≤ Cn ks.length cs.length ∧ σ = [some (.ref b), some (.ref a), some (.int rr), some (.int (f : Int)), x4, x5])
    ⟨Ex.refl _, 0, 0, _, _, Nat.zero_le _, Int.le_refl _, by rw [Nat.sub_zero, Nat.sub_zero]; omega, rfl⟩ (fun i σ H' _ p => p.1) ?_ ?_
  · rintro i x σ H' t hx ⟨e, f, rr, x4, x5, hf, rr0, rr1, rfl⟩ ht
    obtain ⟨z, hz, rfl⟩ := ints_get hx
    have hi := (List.getElem?_eq_some_iff.mp hz).1
    have e1 := e.trans (Ex.new (o := .tup [.int (i : Int), .int z]) ht)
    have pos := cn_pos ⟨ks.length - i, by omega⟩ ⟨cs.length - f, by omega⟩
    simp only at pos
    refine ⟨_, rfl, _, rfl, _, cs.length, rfl, .inr ⟨_, ex_t e1 hb, by rw [List.length_map]⟩, rfl, _, rfl, ite2 (fun c => ?_) (fun c => ?_)⟩
    · exact ⟨_, rfl, q rr _ e1 rr0 (by omega)⟩
    · have c' : f ≠ cs.length := fun z => c (by rw [z]; exact decide_eq_true rfl)
      obtain ⟨v, hat, hg⟩ := at_get (xs := cs.map V.int) (k := (f : Int)) (by omega) (by rw [List.length_map]; omega)
      obtain ⟨y, hy, rfl⟩ := ints_get hg
      have pas := cn_pas ⟨ks.length - i - 1, by omega⟩ ⟨cs.length - f - 1, by omega⟩
      simp only at pas
      rw [show ks.length - i - 1 + 1 = ks.length - i by omega, show cs.length - f - 1 + 1 = cs.length - f by omega] at pas
      have p1 := cn_pos ⟨ks.length - i - 1, by omega⟩ ⟨cs.length - f - 1, by omega⟩
      have p2 := cn_pos ⟨ks.length - i - 1, by omega⟩ ⟨cs.length - f, by omega⟩
      simp only at p1 p2
      refine ⟨_, rfl, _, rfl, _, rfl, b, _, _, _, rfl, rfl, ex_t e1 hb, hat, rfl, _, rfl, ite2 (fun d => ?_) (fun d => ?_)⟩
      · refine ⟨_, rfl, _, _, rfl, rfl, e1, f + 1, rr, _, _, by omega, rr0, ?_, rfl⟩
        rw [show ks.length - (i + 1) = ks.length - i - 1 by omega, show cs.length - (f + 1) = cs.length - f - 1 by omega]
        omega
      · refine ⟨_, rfl, _, rfl, _, ks.length, rfl, .inl ⟨_, ex_l e1 ha, by rw [List.length_map]⟩, _, rfl, _, _, rfl, rfl, _, _, rfl, rfl, _, rfl, _, cs.length, rfl, .inr ⟨_, ex_t e1 hb, by rw [List.length_map]⟩, _, rfl, _, _, rfl, rfl, _, _, rfl, rfl, _, _, rfl, by omega, by omega, by omega, by omega, _, _, rfl, rfl, ?_⟩
        have ec : PySem.W.mcComb ((ks.length : Int) - (i : Int) - 1) ((cs.length : Int) - (f : Int) - 1) = Cn (ks.length - i - 1) (cs.length - f - 1) := by
          unfold Cn
          congr 1 <;> omega
        rw [ec]
        refine ⟨e1, f, rr + Cn (ks.length - i - 1) (cs.length - f - 1), _, _, hf, by omega, ?_, rfl⟩
        rw [show ks.length - (i + 1) = ks.length - i - 1 by omega]
        omega
  · rintro σ H' ⟨e, f, rr, x4, x5, hf, rr0, rr1, rfl⟩
    have pos := cn_pos ⟨ks.length - (ks.map V.int).length, by omega⟩ ⟨cs.length - f, by omega⟩
    simp only at pos
    exact ⟨_, rfl, q rr _ e rr0 (by omega)⟩
end
end L2.U


set_option Elab.async false
set_option linter.all false
set_option maxRecDepth 100000
set_option maxHeartbeats 4000000
namespace L2.U
open PySem PySem.Spec PyProof.Rows Evl

section
variable {P : Program} {w : World} {K : PySem.W.Frag} {mg : Str → Option Value} {base : Heap}
theorem sub_filter : ∀ {cs ls : List Int}, cs.Sublist ls → ls.Nodup → (ls.filter fun z => !decide (z ∈ cs)).length + cs.length = ls.length := by
  intro cs ls h
  induction h with
  | slnil => intro _; rfl
  | @cons cs ls a h ih =>
    intro nd
    obtain ⟨n1, n2⟩ := List.nodup_cons.mp nd
    have na : a ∉ cs := fun z => n1 (h.mem z)
    rw [List.filter_cons, if_pos (by simp [na]), List.length_cons, List.length_cons]
    have := ih n2
    omega
  | @cons_cons cs ls a h ih =>
    intro nd
    obtain ⟨n1, n2⟩ := List.nodup_cons.mp nd
    rw [List.filter_cons, if_neg (by simp), List.length_cons, List.length_cons]
    have e : (ls.filter fun z => !decide (z ∈ a :: cs)) = ls.filter fun z => !decide (z ∈ cs) := by
      apply List.filter_congr
      intro z hz
      have : z ≠ a := fun q => n1 (q ▸ hz)
      simp [this]
    rw [e]
    have := ih n2
    omega
theorem behind_nodup {ks cs : List Int} {g : Int} (h : ks.Nodup) : (behindI ks cs g).Nodup := (h.filter _).sublist (List.drop_sublist _ _)
theorem behind_length {ls cs : List Int} {g : Int} (h : cs.Sublist ls) (nd : ls.Nodup) : (behindI ls cs g).length = ls.length - cs.length - g.toNat := by
  have := sub_filter h nd
  unfold behindI
  rw [List.length_drop]
  omega
def spRoundsAt (K : PySem.W.Frag) : Sp := fun vs H Q _ => ∃ (r : Int) (a b : Addr) (ks ss : List Int) (g : Int), vs = [.int r, .ref a, .ref b, .int g] ∧ (SqL K H a (ks.map V.int) ∨ SqT K H a (ks.map V.int)) ∧ (SqL K H b (ss.map V.int) ∨ SqT K H b (ss.map V.int)) ∧ ks.Nodup ∧ ks.length ≤ 16 ∧ ss.length ≤ 16 ∧ (∀ z ∈ ss, 1 ≤ z) ∧ (g = 0 ∨ g = 1) ∧
  0 ≤ r ∧ r < manyI (ks.length : Int) ss g ∧ ∀ (p : Addr) (xs : List V) H', Ex H H' → H' p = some (.tup xs) → Q (.ref p) H'
theorem ok_rounds_at (T : TA2 K mg) : FnOk P w K mg base CX0 2 T.rounds_at.a T.rounds_at.fd ["rank", "kinds", "sizes", "gap"] (spRoundsAt K) := by
  refine T.rounds_at.F.ok sc_rounds_at (fun vs H Q E h => ?_) (fun cdv A outer s H vs Q E hr h => ?_)
  · obtain ⟨r, a, b, ks, ss, g, rfl, _⟩ := h; rfl
  obtain ⟨r, a, b, ks, ss, g, rfl, ha, hb, nd, hk, hss, hs1, hg, r0, r1, q⟩ := h
  refine ⟨_, (pss_cons (ps_set (i := 4) sc_rounds_at.nd rfl (Or.inl rfl) (pe_lst pa_nil))
    (pss_cons (ps_set (i := 5) sc_rounds_at.nd rfl (Or.inl rfl) (pe_callTy (klist K) (by rfl) T.z_list (by decide +kernel) (pa_cons (pv 1) pa_nil)))
    (pss_cons (ps_for PassesOwn.never rfl (pi_enumS (by rfl) T.z_enumerate (pa_cons (pv 2) pa_nil)) (pg_tup (by rfl) (pgs_cons (pg_name (i := 6) sc_rounds_at.nd rfl (Or.inl rfl)) (pgs_cons (pg_name (i := 7) sc_rounds_at.nd rfl (Or.inl rfl)) pgs_nil))) (pss_cons (ps_set (i := 8) sc_rounds_at.nd rfl (Or.inl rfl) (pe_call (ok_many T) (hr.mono (by decide)) rfl T.many.m T.many.F.kp T.many.b .nil pass0 (pa_cons (pe_op op_sub (pe_op op_sub (pe_callB (klen K) (by rfl) T.z_len (by decide +kernel) (pa_cons (pv 5) pa_nil)) (pv 7)) (pv 3)) (pa_cons (pe_slice (kslS K) (pv 2) (po_some (pe_op op_add (pv 6) pe_int)) po_none) (pa_cons (pv 3) pa_nil)))))
    (pss_cons (ps_set (i := 9) sc_rounds_at.nd rfl (Or.inl rfl) (pe_call (ok_chosen_at T) (hr.mono (by decide)) rfl T.chosen_at.m T.chosen_at.F.kp T.chosen_at.b .nil pass0 (pa_cons (pe_op op_fdivW (pv 0) (pv 8)) (pa_cons (pv 5) (pa_cons (pv 7) pa_nil)))))
    (pss_cons (ps_set (i := 0) sc_rounds_at.nd rfl (Or.inl rfl) (pe_op op_mod (pv 0) (pv 8)))
    (pss_cons (ps_set (i := 5) sc_rounds_at.nd rfl (Or.inl rfl) (pe_call (ok_behind T) (hr.mono (by decide)) rfl T.behind.m T.behind.F.kp T.behind.b .nil pass0 (pa_cons (pv 5) (pa_cons (pv 9) (pa_cons (pv 3) pa_nil)))))
    (pss_one (ps_expr (pe_bm PySem.F.plainAttrs_list PySem.F.slot_list_append PySem.F.type_list_append mt_append (pv 4) (pa_cons (pv 9) pa_nil)))))))))
    (pss_one (ps_ret (pe_callTy (ktuple K) (by rfl) T.z_tuple (by decide +kernel) (pa_cons (pv 4) pa_nil))))))), ?_⟩
  refine ⟨Nat.zero_le _, fun RD hRD => ?_⟩
  have e0 := Ex.new (o := .lst []) hRD
  refine ⟨_, rfl, a, _, rfl, ha.imp (ex_l e0) (ex_t e0), fun L hL => ?_⟩
  have e1 := e0.trans (Ex.new (o := .lst (ks.map V.int)) hL)
  have nR : RD ≠ L := by rintro rfl; rw [upd_same] at hL; cases hL
  refine for_enum2 (p := 6) (q := 7) (H0 := H) (xs := ss.map V.int) (fun R r => ⟨_, rfl, r⟩) hb
    (fun i σ H' => Ex H H' ∧ ∃ (ls : List Int) (rr : Int) (Lp : Addr) (xs : List V) (x6 x7 x8 x9 : Option V), H' RD = some (.lst xs) ∧ xs.length ≤ i ∧ H' Lp = some (.lst (ls.map V.int)) ∧ ls.Nodup ∧ ls.length ≤ 16 ∧ 0 ≤ rr ∧ rr < manyI (ls.length : Int) (ss.drop i) g ∧
      σ = [some (.int rr), some (.ref a), some (.ref b), some (.int g), some (.ref RD), some (.ref Lp), x6, x7, x8, x9])
    ⟨e1, ks, r, L, [], _, _, _, _, by rw [upd_ne nR, upd_same], Nat.le_refl _, upd_same, nd, hk, r0, r1, rfl⟩ (fun i σ H' _ p => p.1) ?_ ?_
  · rintro i x σ H' t hx ⟨e, ls, rr, Lp, xs, x6, x7, x8, x9, hR, hxl, hLp, nd2, hl16, rr0, rr1, rfl⟩ ht
    obtain ⟨z, hz, rfl⟩ := ints_get hx
    obtain ⟨hi, hzi⟩ := List.getElem?_eq_some_iff.mp hz
    have eN := Ex.new (o := .tup [.int (i : Int), .int z]) ht
    have e2 := e.trans eN
    have hR2 := eN _ _ hR
    have hL2 := eN _ _ hLp
    generalize upd H' t (.tup [.int (i : Int), .int z]) = H2 at e2 hR2 hL2 ⊢
    have z1 := hs1 z (List.mem_of_getElem? hz)
    obtain ⟨s, rfl⟩ : ∃ s : Nat, z = (s : Int) := ⟨z.toNat, by omega⟩
    have hd : ss.drop i = (s : Int) :: ss.drop (i + 1) := by rw [List.drop_eq_getElem_cons hi, hzi]
    rw [hd, manyI_cons] at rr1
    have hls : ¬ ((ls.length : Int) < (s : Int)) := by
      intro c
      rw [if_pos c] at rr1
      omega
    rw [if_neg hls] at rr1
    have hs' : ∀ z ∈ ss.drop (i + 1), 1 ≤ z := fun z hz => hs1 z (List.mem_of_mem_drop hz)
    obtain ⟨M, hM⟩ : ∃ M, M = manyI ((ls.length : Int) - (s : Int) - g) (ss.drop (i + 1)) g := ⟨_, rfl⟩
    have eM : M = manyI (((ls.length - s - g.toNat : Nat)) : Int) (ss.drop (i + 1)) g := by
      rw [hM]
      by_cases c : (ls.length : Int) - (s : Int) - g < 0
      · rw [many_neg c hs', show ls.length - s - g.toNat = 0 by omega]; rfl
      · congr 1
        omega
    have Mle := many_le (g := g) (by omega) (ss.drop (i + 1)) (ls.length - s - g.toNat) (by omega) hs'
    rw [← eM] at Mle
    rw [← hM] at rr1
    have cp := cn_pos ⟨ls.length, by omega⟩ ⟨s, by omega⟩
    simp only at cp
    have rr1' : rr < Cn ls.length s * M := rr1
    have M1 : 1 ≤ M := by
      by_cases c : M = 0
      · rw [c, Int.mul_zero] at rr1'; omega
      · omega
    have Mtop : M ≤ 20922789888000 := by
      have := (fc_mono (show ls.length - s - g.toNat ≤ 16 by omega) (Nat.le_refl _)).2
      rw [fc_top] at this
      omega
    have dlt : rr / M < Cn ls.length s := Int.ediv_lt_of_lt_mul (by omega) rr1'
    have d0 : 0 ≤ rr / M := Int.ediv_nonneg rr0 (by omega)
    -- further
    have cut : cutV (ss.map V.int) (some ((i : Int) + 1)) none = (ss.drop (i + 1)).map V.int := by
      have := cut_from (xs := ss.map V.int) (k := i + 1)
      rw [show (((i + 1 : Nat)) : Int) = (i : Int) + 1 by omega] at this
      rw [this, List.map_drop]
    have not0 : ¬ (HT.sIx (ss.map V.int).length 0 (some ((i : Int) + 1)) = 0 ∧ HT.sIx (ss.map V.int).length (ss.map V.int).length none = (ss.map V.int).length) := by
      rintro ⟨h1, _⟩
      have := HT.sIx_nat (ss.map V.int).length 0 (i + 1)
      rw [show (((i + 1 : Nat)) : Int) = (i : Int) + 1 by omega] at this
      rw [this, List.length_map] at h1
      omega
    have body : ∀ (H3 : Hp), Ex H2 H3 → ∀ σ' : L2.St, σ' = [some (.int rr), some (.ref a), some (.ref b), some (.int g), some (.ref RD), some (.ref Lp), some (.int (i : Int)), some (.int (s : Int)), some (.int M), x9] → ∀ D : Ends, (∀ σ'' H'', (Ex H H'' ∧ ∃ (ls : List Int) (rr : Int) (Lp : Addr) (xs : List V) (x6 x7 x8 x9 : Option V), H'' RD = some (.lst xs) ∧ xs.length ≤ i + 1 ∧ H'' Lp = some (.lst (ls.map V.int)) ∧ ls.Nodup ∧ ls.length ≤ 16 ∧ 0 ≤ rr ∧ rr < manyI (ls.length : Int) (ss.drop (i + 1)) g ∧
      σ'' = [some (.int rr), some (.ref a), some (.ref b), some (.int g), some (.ref RD), some (.ref Lp), x6, x7, x8, x9]) → D.nx σ'' H'') →
      tSeq (tAsg (tCall (spChAt K) [] E0 (tCons (tOp (rI CDivW fun i j => .int (i / j)) (tVar 0) (tVar 8)) (tCons (tVar 5) (tCons (tVar 7) tNil)))) (gName 9))
        (tSeq (tAsg (tOp (rI (fun _ j => 0 < j) fun i j => .int (i % j)) (tVar 0) (tVar 8)) (gName 0))
          (tSeq (tAsg (tCall (spBehind K) [] E0 (tCons (tVar 5) (tCons (tVar 9) (tCons (tVar 3) tNil)))) (gName 5))
            (tDrop (tBM K "list" rAppend (tVar 4) (tCons (tVar 9) tNil))))) D σ' H3 := by
      rintro H3 e3 σ' rfl D k
      refine ⟨_, rfl, _, rfl, _, _, rfl, rfl, ⟨by omega, log_small (by omega) Mtop⟩, _, rfl, _, rfl, rr / M, Lp, ls, s, rfl, SqL.of (e3 _ _ hL2), hl16, by omega, d0, dlt, fun p cs H5 e5 hp sub hcl => ?_⟩
      refine ⟨_, rfl, _, rfl, _, _, rfl, rfl, (show (0 : Int) < M by omega), ?_⟩
      refine ⟨_, rfl, _, rfl, _, rfl, Lp, p, ls, cs, g, rfl, .inl (SqL.of (e5 _ _ (e3 _ _ hL2))), SqT.of hp, by omega, hg, fun p2 H6 e6 hp20 h6 => ?_⟩
      have hR6 := e6 _ _ (e5 _ _ (e3 _ _ hR2))
      have e26 := ((e2.trans e3).trans e5).trans e6
      have nRp : p2 ≠ RD := by
        rintro rfl
        rw [e5 _ _ (e3 _ _ hR2)] at hp20
        cases hp20
      have bl := behind_length (g := g) sub nd2
      rw [hcl] at bl
      refine ⟨_, rfl, .inl ⟨rfl, _, SqL.of hR6⟩, _, rfl, RD, _, _, rfl, rfl, hR6, small1000 (by omega), k _ _ ⟨e26.mut hRD, behindI ls cs g, rr % M, p2, xs ++ [.ref p], _, _, _, _, upd_same, by rw [List.length_append, List.length_singleton]; omega, by rw [upd_ne nRp]; exact h6, behind_nodup nd2, by rw [bl]; omega, Int.emod_nonneg _ (by omega), ?_, rfl⟩⟩
      rw [bl, ← eM]
      exact Int.emod_lt_of_pos _ (by omega)
    refine ⟨_, rfl, _, ls.length, rfl, .inl ⟨_, SqL.of hL2, by rw [List.length_map]⟩, _, rfl, _, _, rfl, rfl, _, rfl, _, _, rfl, rfl, ?_⟩
    refine ⟨_, rfl, _, rfl, _, _, rfl, rfl, _, rfl, ?_⟩
    rcases hb with hb' | hb'
    · refine .inl ⟨b, _, rfl, ex_l e2 hb', fun c hc => ?_⟩
      refine ⟨_, rfl, _, g, c, ss.drop (i + 1), rfl, .inl (SqL.of (by rw [upd_same, cut])), by omega, by omega, hs', ?_⟩
      rw [← hM]
      exact body _ (Ex.new hc) _ rfl _ (fun σ'' H'' z => z)
    · refine .inr ⟨b, _, rfl, ex_t e2 hb', fun z => absurd z not0, fun _ c hc => ?_⟩
      refine ⟨_, rfl, _, g, c, ss.drop (i + 1), rfl, .inr (SqT.of (by rw [upd_same, cut])), by omega, by omega, hs', ?_⟩
      rw [← hM]
      exact body _ (Ex.new hc) _ rfl _ (fun σ'' H'' z => z)
  · rintro σ H' ⟨e, ls, rr, Lp, xs, x6, x7, x8, x9, hR, hxl, hLp, nd2, hl16, rr0, rr1, rfl⟩
    exact ⟨_, rfl, RD, _, rfl, .inl ⟨SqL.of hR, fun l hl => q l xs _ (e.trans (Ex.new hl)) upd_same⟩⟩
end
end L2.U


set_option Elab.async false
set_option linter.all false
set_option maxRecDepth 100000
set_option maxHeartbeats 4000000
namespace L2.U
open PySem PySem.Spec PyProof.Rows Evl

section
variable {P : Program} {w : World} {K : PySem.W.Frag} {mg : Str → Option Value} {base : Heap}
theorem nodup_len : ∀ {xs ys : List Int}, xs.Nodup → (∀ x ∈ xs, x ∈ ys) → xs.length ≤ ys.length
  | [], _, _, _ => Nat.zero_le _
  | x :: r, ys, nd, h => by
    have n1 := List.nodup_cons.mp nd
    have m := h x (by simp)
    have := nodup_len (xs := r) (ys := ys.erase x) n1.2 (fun z hz => by
      have hne : z ≠ x := fun e => n1.1 (e ▸ hz)
      exact (List.mem_erase_of_ne hne).mpr (h z (by simp [hz])))
    rw [List.length_erase_of_mem m] at this
    have := List.length_pos_of_mem m
    simp only [List.length_cons]
    omega
theorem asc_pair : ∀ (ds : List PyData), (∀ d ∈ ds, ∃ i, d = .int i) → ascD ds = true → (ds.map intD).Pairwise (· < ·)
  | [], _, _ => .nil
  | [d], _, _ => by simp
  | a :: b :: r, hi, h => by
    obtain ⟨x, rfl⟩ := hi a (by simp)
    obtain ⟨y, rfl⟩ := hi b (by simp)
    have h' := List.all_eq_true.mp h
    have h0 : x < y := of_decide_eq_true (h' 0 (by rw [List.mem_range]; simp))
    have ih := asc_pair (.int y :: r) (fun d hd => hi d (List.mem_cons_of_mem _ hd)) (by
      unfold ascD
      rw [List.all_eq_true]
      intro i hir
      rw [List.mem_range] at hir
      have := h' (i + 1) (by rw [List.mem_range]; simp only [List.length_cons] at hir ⊢; omega)
      exact this)
    rw [List.map_cons]
    refine List.pairwise_cons.mpr ⟨fun z hz => ?_, ih⟩
    have ih2 := List.pairwise_cons.mp ih
    rcases List.mem_cons.mp hz with rfl | hz
    · exact h0
    · exact Int.lt_trans h0 (ih2.1 z hz)
/-- what is chosen: so many different ones of the kinds -/
theorem chosen_facts {ks : List Int} {d : PyData} (c : chosenD ks d = true) : (intsOf d).Nodup ∧ (∀ z ∈ intsOf d, z ∈ ks) ∧ 1 ≤ (intsOf d).length := by
  cases d with
  | tuple ds =>
    have c' : (!ds.isEmpty && ds.all (inD ks) && ascD ds) = true := c
    simp only [Bool.and_eq_true] at c'
    obtain ⟨⟨c1, c2⟩, c3⟩ := c'
    have isn : ∀ d ∈ ds, ∃ i, d = .int i := fun d hd => by
      have := List.all_eq_true.mp c2 d hd
      cases d <;> first | exact ⟨_, rfl⟩ | cases this
    refine ⟨?_, fun z hz => ?_, ?_⟩
    · exact (asc_pair ds isn c3).imp (fun h => Int.ne_of_lt h)
    · obtain ⟨d, hd, rfl⟩ := List.mem_map.mp hz
      obtain ⟨i, rfl⟩ := isn d hd
      exact of_decide_eq_true (List.all_eq_true.mp c2 _ hd)
    · cases ds with
      | nil => cases c1
      | cons a r => show 1 ≤ (List.map intD (a :: r)).length; simp
  | none => cases c
  | bool _ => cases c
  | int _ => cases c
  | str _ => cases c
  | list _ => cases c
  | dict _ => cases c
theorem behind_le {ls cs : List Int} {g : Int} (nd : ls.Nodup) (cd : cs.Nodup) (h : ∀ z ∈ cs, z ∈ ls) : (behindI ls cs g).length + cs.length ≤ ls.length ∧ cs.length ≤ ls.length ∧ ((ls.filter fun z => !decide (z ∈ cs)).length + cs.length ≤ ls.length) := by
  have h1 : ((ls.filter fun z => !decide (z ∈ cs)) ++ cs).Nodup := by
    rw [List.nodup_append]
    refine ⟨nd.filter _, cd, fun a ha b hb e => ?_⟩
    have := (List.mem_filter.mp ha).2
    rw [e] at this
    simp [hb] at this
  have h2 := nodup_len (ys := ls) h1 (fun z hz => by
    rcases List.mem_append.mp hz with hz | hz
    · exact (List.mem_filter.mp hz).1
    · exact h z hz)
  rw [List.length_append] at h2
  refine ⟨?_, by omega, h2⟩
  unfold behindI
  rw [List.length_drop]
  omega
def Gc (n : Nat) : Int := Fc n * 2 ^ n
theorem gc_all : ∀ l : Fin 17, ∀ s : Fin 17, 1 ≤ s.val → s.val ≤ l.val → 2 * Cn l.val s.val * Gc (l.val - s.val) ≤ Gc l.val := by decide +kernel
theorem gc_pos : ∀ l : Fin 17, ∀ s : Fin 17, 1 ≤ Gc l.val ∧ (s.val ≤ l.val → Gc s.val ≤ Gc l.val) ∧ Gc l.val < 10 ^ 20 := by decide +kernel
def spRankAt (K : PySem.W.Frag) : Sp := fun vs H Q _ => ∃ (x : V) (a : Addr) (d : PyData) (n : Nat) (ok : Addr → Prop) (ks : List Int) (g : Int), vs = [x, .ref a, .int g] ∧ Rd K ok H n x d ∧ (SqL K H a (ks.map V.int) ∨ SqT K H a (ks.map V.int)) ∧ ks.Nodup ∧ ks.length ≤ 16 ∧ (g = 0 ∨ g = 1) ∧ roundsD ks g d = true ∧
  ∀ r H', Ex H H' → 0 ≤ r → r ≤ 10 ^ 20 → Q (.int r) H'
theorem rd_tup {ok : Addr → Prop} {H : Hp} {n : Nat} {x : V} {ks : List Int} {g : Int} {d : PyData} (h : Rd K ok H n x d) (c : roundsD ks g d = true) : ∃ b xs ds m, x = .ref b ∧ d = .tuple ds ∧ SqT K H b xs ∧ RdL K ok H m xs ds ∧ xs.length ≤ 900 ∧ roundsL ks ds g = true := by
  cases h with
  | tup h1 ha hl hz all => exact ⟨_, _, _, _, rfl, rfl, h1, ⟨hl, all⟩, hz, c⟩
  | non => cases c
  | bl _ => cases c
  | int _ => cases c
  | str _ _ _ => cases c
  | lst _ _ _ _ _ => cases c
theorem ok_rank_at (T : TA2 K mg) : FnOk P w K mg base CX0 2 T.rank_at.a T.rank_at.fd ["rounds", "kinds", "gap"] (spRankAt K) := by
  refine T.rank_at.F.ok sc_rank_at (fun vs H Q E h => ?_) (fun cdv A outer s H vs Q E hr h => ?_)
  · obtain ⟨x, a, d, n, ok, ks, g, rfl, _⟩ := h; rfl
  obtain ⟨x, a, d, n, ok, ks, g, rfl, hx, ha, nd, hk, hg, hrd, q⟩ := h
  refine ⟨_, (pss_cons (ps_set (i := 3) sc_rank_at.nd rfl (Or.inl rfl) pe_int)
    (pss_cons (ps_set (i := 4) sc_rank_at.nd rfl (Or.inl rfl) (pe_callTy (klist K) (by rfl) T.z_list (by decide +kernel) (pa_cons (pv 1) pa_nil)))
    (pss_cons (ps_for PassesOwn.never rfl (pi_enumS (by rfl) T.z_enumerate (pa_cons (pv 0) pa_nil)) (pg_tup (by rfl) (pgs_cons (pg_name (i := 5) sc_rank_at.nd rfl (Or.inl rfl)) (pgs_cons (pg_name (i := 6) sc_rank_at.nd rfl (Or.inl rfl)) pgs_nil))) (pss_cons (ps_aug (i := 3) sc_rank_at.nd rfl (Or.inl rfl) (pe_call (ok_many_chosen T) (hr.mono (by decide)) rfl T.many_chosen.m T.many_chosen.F.kp T.many_chosen.b .nil pass0 (pa_cons (pv 4) (pa_cons (pv 6) pa_nil))) ip_mulC)
    (pss_cons (ps_aug (i := 3) sc_rank_at.nd rfl (Or.inl rfl) (pe_call (ok_chosen_rank T) (hr.mono (by decide)) rfl T.chosen_rank.m T.chosen_rank.F.kp T.chosen_rank.b .nil pass0 (pa_cons (pv 6) (pa_cons (pv 4) pa_nil))) ip_add)
    (pss_one (ps_set (i := 4) sc_rank_at.nd rfl (Or.inl rfl) (pe_call (ok_behind T) (hr.mono (by decide)) rfl T.behind.m T.behind.F.kp T.behind.b .nil pass0 (pa_cons (pv 4) (pa_cons (pv 6) (pa_cons (pv 2) pa_nil)))))))))
    (pss_one (ps_ret (pv 3)))))), ?_⟩
  obtain ⟨b, xs, ds, m, rfl, rfl, hb, rl, hz, hrl⟩ := rd_tup hx hrd
  refine ⟨_, rfl, a, _, rfl, ha, fun L hL => ?_⟩
  have e1 := Ex.new (o := .lst (ks.map V.int)) hL
  have gk := gc_pos ⟨ks.length, by omega⟩ ⟨0, by decide⟩
  simp only at gk
  refine for_enum2 (p := 5) (q := 6) (H0 := H) (xs := xs) (fun R r => ⟨_, rfl, r⟩) (.inr hb)
    (fun i σ H' => Ex H H' ∧ ∃ (ls : List Int) (rr : Int) (Lp : Addr) (x5 x6 : Option V), H' Lp = some (.lst (ls.map V.int)) ∧ ls.Nodup ∧ ls.length ≤ 16 ∧ roundsL ls (ds.drop i) g = true ∧ 0 ≤ rr ∧ (rr + 1) * Gc ls.length ≤ Gc ks.length ∧ σ = [some (.ref b), some (.ref a), some (.int g), some (.int rr), some (.ref Lp), x5, x6])
    ⟨e1, ks, 0, L, _, _, upd_same, nd, hk, hrl, Int.le_refl _, by rw [Int.zero_add, Int.one_mul]; exact Int.le_refl _, rfl⟩ (fun i σ H' _ p => p.1) ?_ ?_
  · rintro i x σ H' t hxi ⟨e, ls, rr, Lp, x5, x6, hLp, nd2, hl16, hr2, rr0, rr1, rfl⟩ ht
    have hi := (List.getElem?_eq_some_iff.mp hxi).1
    have hd : ds[i]? = some (ds[i]'(by have := rl.1; omega)) := List.getElem?_eq_getElem _
    have r0 := rl.2 i x _ hxi hd
    rw [List.drop_eq_getElem_cons (show i < ds.length by have := rl.1; omega), roundsL_cons, Bool.and_eq_true] at hr2
    generalize ds[i]'(by have := rl.1; omega) = d0 at hd r0 hr2
    obtain ⟨hc, hr3⟩ := hr2
    have eN := Ex.new (o := .tup [.int (i : Int), x]) ht
    have e2 := e.trans eN
    have hL2 := eN _ _ hLp
    generalize upd H' t (.tup [.int (i : Int), x]) = H2 at e2 hL2 ⊢
    obtain ⟨c, rfl, hcc⟩ := chosen_ints (r0.ex e2) hc
    obtain ⟨cn, cin, c1⟩ := chosen_facts hc
    obtain ⟨b1, b2, _⟩ := behind_le (g := g) nd2 cn cin
    have cp := cn_pos ⟨ls.length, by omega⟩ ⟨(intsOf d0).length, by omega⟩
    simp only at cp
    refine ⟨_, rfl, _, rfl, _, rfl, Lp, c, ls, intsOf d0, rfl, SqL.of hL2, hcc, by omega, by omega, _, _, rfl, rfl, .inr ⟨by omega, by omega⟩, ?_⟩
    refine ⟨_, rfl, _, rfl, _, rfl, Lp, c, ls, intsOf d0, rfl, SqL.of hL2, hcc, hl16, b2, fun r H3 e3 h0 h1 => ⟨_, _, rfl, rfl, ?_⟩⟩
    refine ⟨_, rfl, _, rfl, _, rfl, Lp, c, ls, intsOf d0, g, rfl, .inl (SqL.of (e3 _ _ hL2)), ex_t e3 hcc, by omega, hg, fun p2 H6 e6 _ h6 => ?_⟩
    refine ⟨(e2.trans e3).trans e6, behindI ls (intsOf d0) g, rr * Cn ls.length (intsOf d0).length + r, p2, _, _, h6, behind_nodup nd2, by omega, hr3, ?_, ?_, rfl⟩
    · have := Int.mul_nonneg rr0 cp.1
      omega
    · have g1 := gc_all ⟨ls.length, by omega⟩ ⟨(intsOf d0).length, by omega⟩ c1 b2
      have g2 := gc_pos ⟨ls.length - (intsOf d0).length, by omega⟩ ⟨(behindI ls (intsOf d0) g).length, by omega⟩
      simp only at g1 g2
      have g3 := g2.2.1 (by omega)
      generalize hM : Cn ls.length (intsOf d0).length = M at *
      have gb : 0 ≤ Gc (behindI ls (intsOf d0) g).length := by
        have := (gc_pos ⟨(behindI ls (intsOf d0) g).length, by omega⟩ ⟨0, by decide⟩).1
        simp only at this
        omega
      have M1 : 1 ≤ M := cp.2.2.1 b2
      have s1 : rr * M + r + 1 ≤ (rr + 1) * (2 * M) := by
        have : (rr + 1) * (2 * M) = 2 * (rr * M) + 2 * M := by rw [Int.add_mul, Int.one_mul, Int.mul_left_comm]
        have := Int.mul_nonneg rr0 cp.1
        omega
      calc (rr * M + r + 1) * Gc (behindI ls (intsOf d0) g).length
          ≤ ((rr + 1) * (2 * M)) * Gc (behindI ls (intsOf d0) g).length := Int.mul_le_mul_of_nonneg_right s1 gb
        _ ≤ ((rr + 1) * (2 * M)) * Gc (ls.length - (intsOf d0).length) := Int.mul_le_mul_of_nonneg_left g3 (Int.mul_nonneg (by omega) (by omega))
        _ = (rr + 1) * (2 * M * Gc (ls.length - (intsOf d0).length)) := by rw [Int.mul_assoc]
        _ ≤ (rr + 1) * Gc ls.length := Int.mul_le_mul_of_nonneg_left g1 (by omega)
        _ ≤ Gc ks.length := rr1
  · rintro σ H' ⟨e, ls, rr, Lp, x5, x6, hLp, nd2, hl16, hr2, rr0, rr1, rfl⟩
    have gl := (gc_pos ⟨ls.length, by omega⟩ ⟨0, by decide⟩).1
    simp only at gl
    have : (rr + 1) * 1 ≤ (rr + 1) * Gc ls.length := Int.mul_le_mul_of_nonneg_left gl (by omega)
    have top : Gc ks.length < 10 ^ 20 := gk.2.2
    exact ⟨_, rfl, q rr _ e rr0 (by omega)⟩
theorem cut_last {xs : List V} : cutV xs none (some (-1)) = xs.take (xs.length - 1) := by
  unfold cutV
  rw [HT.sIx_none]
  show (xs.drop 0).take ((if (-1 : Int) < 0 then ((-1 : Int) + (xs.length : Int)).toNat else min (-1 : Int).toNat xs.length) - 0) = _
  rw [if_pos (by decide), List.drop_zero]
  congr 1
  omega
def spAnsAt (K : PySem.W.Frag) (CK CR : Addr) : Sp := fun vs H Q E => ∃ (x y : V) (dx dy : PyData) (n : Nat) (ok : Addr → Prop), vs = [x, y] ∧ RdA K ok H n x dx ∧ RdA K ok H n y dy ∧ n ≤ 20 ∧
  (kindsD dy = true → roundsD (numsD dy) 1 dx = true → ∀ (p : Addr) (xs : List V) H', Ex H H' → H' p = some (.tup xs) → Q (.ref p) H') ∧
  (kindsD dy = false → ∀ e H', Ex H H' → H' e = some (.xd [("given", y)]) → E (.ref CK) (some e) H') ∧
  (kindsD dy = true → roundsD (numsD dy) 1 dx = false → ∀ e H', Ex H H' → H' e = some (.xd [("given", x)]) → E (.ref CR) (some e) H')
theorem kinds_nodup {d : PyData} (c : kindsD d = true) : (numsD d).Nodup := by
  unfold kindsD at c
  simp only [Bool.and_eq_true] at c
  obtain ⟨⟨⟨c1, c2⟩, c3⟩, c4⟩ := c
  have isn : ∀ e ∈ itemsD d, ∃ i, e = .int i := fun e he => betw_isint e (List.all_eq_true.mp c3 e he)
  exact (asc_pair _ isn c4).imp (fun h => Int.ne_of_lt h)
theorem rounds_rd {ok : Addr → Prop} {H : Hp} {n : Nat} {x : V} {ks : List Int} {g : Int} {d : PyData} (h : RdA K ok H n x d) (c : roundsD ks g d = true) : Rd K ok H n x d := by
  rcases h with h | ⟨a, rfl, rfl, _⟩
  · exact h
  · cases c
theorem ok_answers_of (T : TA2 K mg) : FnOk P w K mg base (L2.CX P w) 7 T.answers_of.a T.answers_of.fd ["rounds", "wires"] (spAnsAt K T.InvalidKinds.C T.InvalidRounds.C) := by
  refine T.answers_of.F.okX sc_answers_of (fun vs H Q E h => ?_) (fun cdv A outer s H vs Q E hr h => ?_)
  · obtain ⟨x, y, dx, dy, n, ok, rfl, _⟩ := h; rfl
  obtain ⟨x, y, dx, dy, n, ok, rfl, hx, hy, hn, q, qk, qr⟩ := h
  refine ⟨_, (pss_cons (ps_expr (by exact (pe_callS (ok_check_rounds T) (hr.mono (by decide)) rfl T.check_rounds.m T.check_rounds.F.kp T.check_rounds.b (fun σ => passAt (takes_of rfl rfl rfl rfl) σ) (pa_cons (pv 0) (pa_cons (pv 1) (pa_cons (pe_glob (v := .int 1) rfl T.c_ON_WIRES ⟨_, rfl⟩) pa_nil))))))
    (pss_cons (ps_set (i := 2) sc_answers_of.nd rfl (Or.inl rfl) (pe_lst pa_nil))
    (pss_cons (ps_set (i := 3) sc_answers_of.nd rfl (Or.inl rfl) (pe_callTy (klist K) (by rfl) T.z_list (by decide +kernel) (pa_cons (pv 1) pa_nil)))
    (pss_cons (ps_for (passes_of rfl) rfl (kpit K (pe_slice (kslT K) (pv 0) po_none (po_some (pe_un un_neg pe_int)))) (pg_name (i := 4) sc_answers_of.nd rfl (Or.inl rfl)) (pss_cons (ps_expr (pe_bm PySem.F.plainAttrs_list PySem.F.slot_list_append PySem.F.type_list_append mt_append (pv 2) (pa_cons (pe_ix (kixl K) (pe_call (ok_behind T) (hr.mono (by decide)) rfl T.behind.m T.behind.F.kp T.behind.b .nil pass0 (pa_cons (pv 3) (pa_cons (pv 4) (pa_cons pe_int pa_nil)))) pe_int (fun _ _ => rfl)) pa_nil)))
    (pss_one (ps_set (i := 3) sc_answers_of.nd rfl (Or.inl rfl) (pe_call (ok_behind T) (hr.mono (by decide)) rfl T.behind.m T.behind.F.kp T.behind.b .nil pass0 (pa_cons (pv 3) (pa_cons (pv 4) (pa_cons (pe_glob (v := .int 1) rfl T.c_ON_WIRES ⟨_, rfl⟩) pa_nil))))))))
    (pss_one (ps_ret (pe_callTy (ktuple K) (by rfl) T.z_tuple (by decide +kernel) (pa_cons (pv 2) pa_nil)))))))), ?_⟩
  refine ⟨_, rfl, _, rfl, x, y, dx, dy, n, ok, 1, rfl, hx, hy, hn, .inr rfl, fun ck cr H1 e1 => ?_, qk, qr⟩
  obtain ⟨b, xs, ds, m, rfl, rfl, hb, rl, hz, hrl⟩ := rd_tup (rounds_rd (hx.ex e1) cr) cr
  obtain ⟨a, rfl, ha, hk16, hk1⟩ := kinds_get ((hy.ex e1).rd (kinds_seq ck)) ck
  have nd := kinds_nodup ck
  refine ⟨Nat.zero_le _, fun D hD => ?_⟩
  have e2 := Ex.new (o := .lst []) hD
  refine ⟨_, rfl, a, _, rfl, ha.imp (ex_l e2) (ex_t e2), fun L hL => ?_⟩
  have e3 := e2.trans (Ex.new (o := .lst ((numsD dy).map V.int)) hL)
  have nDL : D ≠ L := by rintro rfl; rw [upd_same] at hL; cases hL
  have hD3 : upd (upd H1 D (.lst [])) L (.lst ((numsD dy).map V.int)) D = some (.lst []) := by rw [upd_ne nDL, upd_same]
  have hL3 : upd (upd H1 D (.lst [])) L (.lst ((numsD dy).map V.int)) L = some (.lst ((numsD dy).map V.int)) := upd_same
  generalize upd (upd H1 D (.lst [])) L (.lst ((numsD dy).map V.int)) = H3 at e3 hD3 hL3 ⊢
  have hl := rl.1
  have fin : ∀ σ H', (Ex H1 H' ∧ ∃ (as : List V) (v : Option V) (w : Option V), H' D = some (.lst as) ∧ σ = [some (.ref b), some (.ref a), some (.ref D), w, v]) → tRet (tCB (rTupOf K) (tCons (tVar 2) tNil)) { nx := fun _ H' => Q .non H', rt := Q } σ H' := by
    rintro σ H' ⟨e, as, v, w, hd, rfl⟩
    exact ⟨_, rfl, D, _, rfl, .inl ⟨SqL.of hd, fun l hl => q ck cr l as _ ((e1.trans e).trans (Ex.new hl)) upd_same⟩⟩
  refine ⟨_, rfl, 1, rfl, _, rfl, b, xs, rfl, ex_t e3 hb, fun whole => ?_, fun _ tl htl => ?_⟩
  · have x0 : xs = [] := by
      have h2 := whole.2
      have : HT.sIx xs.length xs.length (some (-1)) = xs.length - 1 := by
        show (if (-1 : Int) < 0 then ((-1 : Int) + (xs.length : Int)).toNat else min (-1 : Int).toNat xs.length) = _
        rw [if_pos (by decide)]
        omega
      rw [show (-(1 : Int)) = -1 from rfl, this] at h2
      exact List.eq_nil_of_length_eq_zero (by omega)
    subst x0
    refine ⟨b, rfl, ⟨_, ex_t e3 hb⟩, for_tup (xs := []) (fun i σ H' => Ex H1 H' ∧ ∃ (as : List V) (v : Option V) (w : Option V), H' D = some (.lst as) ∧ σ = [some (.ref b), some (.ref a), some (.ref D), w, v]) ⟨e3, [], _, _, hD3, rfl⟩ (fun i σ H' _ p => ex_t p.1 hb) (fun i x σ H' hx _ => by cases hx) fin⟩
  · have e4 := Ex.new (o := .tup (cutV xs none (some (-1)))) htl
    have htl4 : upd H3 tl (.tup (cutV xs none (some (-1)))) tl = some (.tup (xs.take (xs.length - 1))) := by rw [upd_same, cut_last]
    have hD4 := e4 _ _ hD3
    have hL4 := e4 _ _ hL3
    have e34 := e3.trans e4
    refine ⟨tl, rfl, ⟨_, SqT.of upd_same⟩, for_tup (xs := xs.take (xs.length - 1)) (fun i σ H' => Ex H1 H' ∧ H' tl = some (.tup (xs.take (xs.length - 1))) ∧ ∃ (ls : List Int) (Lp : Addr) (as : List V) (v : Option V), Lp ≠ D ∧ H' D = some (.lst as) ∧ as.length ≤ i ∧ H' Lp = some (.lst (ls.map V.int)) ∧ ls.Nodup ∧ ls.length ≤ 16 ∧ roundsL ls (ds.drop i) 1 = true ∧ σ = [some (.ref b), some (.ref a), some (.ref D), some (.ref Lp), v])
      ⟨e34, htl4, numsD dy, L, [], _, Ne.symm nDL, hD4, Nat.le_refl _, hL4, nd, hk16, hrl, rfl⟩ (fun i σ H' _ p => SqT.of p.2.1) ?_ (fun σ H' p => ?_)⟩
    · rintro i x σ H' hxi ⟨e, ht, ls, Lp, as, v, nLD, hDD, hal, hLL, nd2, hl16, hr2, rfl⟩
      have hi := (List.getElem?_eq_some_iff.mp hxi).1
      rw [List.length_take] at hi
      have hxi' : xs[i]? = some x := by rw [List.getElem?_take_of_lt (by omega)] at hxi; exact hxi
      have hd : ds[i]? = some (ds[i]'(by omega)) := List.getElem?_eq_getElem _
      have r0 := rl.2 i x _ hxi' hd
      rw [List.drop_eq_getElem_cons (show i < ds.length by omega), roundsL_cons, Bool.and_eq_true] at hr2
      generalize ds[i]'(by omega) = d0 at hd r0 hr2
      obtain ⟨hc, hr3⟩ := hr2
      have hr4 := hr3
      rw [List.drop_eq_getElem_cons (show i + 1 < ds.length by omega), roundsL_cons, Bool.and_eq_true] at hr4
      obtain ⟨n1, n2, n3⟩ := chosen_facts hr4.1
      have long := nodup_len n1 n2
      obtain ⟨cn, cin, c1⟩ := chosen_facts hc
      obtain ⟨b1, b2, b3⟩ := behind_le (g := 1) nd2 cn cin
      have l0 : 0 < (behindI ls (intsOf d0) 0).length := by
        unfold behindI at long ⊢
        rw [List.length_drop] at long ⊢
        have : (1 : Int).toNat = 1 := rfl
        have : (0 : Int).toNat = 0 := rfl
        omega
      obtain ⟨c, rfl, hcc⟩ := chosen_ints (r0.ex e) hc
      refine ⟨_, rfl, .inl ⟨rfl, _, SqL.of hDD⟩, _, rfl, _, rfl, Lp, c, ls, intsOf d0, 0, rfl, .inl (SqL.of hLL), hcc, by omega, .inl rfl, fun p H5 e5 hp h5 => ?_⟩
      obtain ⟨v0, hat, hg0⟩ := at_get (xs := (behindI ls (intsOf d0) 0).map V.int) (k := 0) (by decide) (by rw [List.length_map]; omega)
      refine ⟨p, _, 0, v0, rfl, rfl, SqL.of h5, hat, D, _, _, rfl, rfl, e5 _ _ hDD, small1000 (by omega), ?_⟩
      have e6 : Ex H1 (upd H5 D (.lst (as ++ [v0]))) := (e.trans e5).mut hD
      obtain ⟨c2, hceq, hcc2⟩ := chosen_ints (r0.ex e6) hc
      cases hceq
      have hL6 : upd H5 D (.lst (as ++ [v0])) Lp = some (.lst (ls.map V.int)) := by rw [upd_ne nLD]; exact e5 _ _ hLL
      have tD : tl ≠ D := by rintro rfl; rw [hDD] at ht; cases ht
      have ht6 : upd H5 D (.lst (as ++ [v0])) tl = some (.tup (xs.take (xs.length - 1))) := by rw [upd_ne tD]; exact e5 _ _ ht
      have hD6 : upd H5 D (.lst (as ++ [v0])) D = some (.lst (as ++ [v0])) := upd_same
      generalize upd H5 D (.lst (as ++ [v0])) = H6 at e6 hL6 ht6 hD6 hcc2 ⊢
      refine ⟨_, rfl, _, rfl, Lp, c, ls, intsOf d0, 1, rfl, .inl (SqL.of hL6), hcc2, by omega, .inr rfl, fun p2 H7 e7 hp2 h7 => ?_⟩
      have np2 : p2 ≠ D := by rintro rfl; rw [hD6] at hp2; cases hp2
      exact ⟨e6.trans e7, e7 _ _ ht6, behindI ls (intsOf d0) 1, p2, as ++ [v0], _, np2, e7 _ _ hD6, by rw [List.length_append, List.length_singleton]; omega, h7, behind_nodup nd2, by omega, hr3, rfl⟩
    · obtain ⟨e, ht, ls, Lp, as, v, nLD, hDD, hal, hLL, nd2, hl16, hr2, rfl⟩ := p
      exact fin _ _ ⟨e, as, _, _, hDD, rfl⟩
/-! ### the doors -/
def spManyDoor (K : PySem.W.Frag) (CN CS : Addr) : Sp := fun vs H Q E => ∃ (x y : V) (dx dy : PyData) (n : Nat) (ok : Addr → Prop), vs = [x, y] ∧ RdA K ok H n x dx ∧ RdA K ok H n y dy ∧
  (num16 dx = true → sizesD dy = true → ∀ (r : Int) H', Ex H H' → 0 ≤ r → r ≤ 10 ^ 20 → Q (.int r) H') ∧
  (num16 dx = false → ∀ e H', Ex H H' → H' e = some (.xd [("given", x)]) → E (.ref CN) (some e) H') ∧
  (num16 dx = true → sizesD dy = false → ∀ e H', Ex H H' → H' e = some (.xd [("given", y)]) → E (.ref CS) (some e) H')
def spRoundsDoor (K : PySem.W.Frag) (CK CS CR : Addr) (g : Int) : Sp := fun vs H Q E => ∃ (x y z : V) (dx dy dz : PyData) (n : Nat) (ok : Addr → Prop), vs = [x, y, z] ∧ RdA K ok H n x dx ∧ RdA K ok H n y dy ∧ RdA K ok H n z dz ∧
  (kindsD dy = true → sizesD dz = true → rankD g dx dy dz = true → ∀ (p : Addr) (xs : List V) H', Ex H H' → H' p = some (.tup xs) → Q (.ref p) H') ∧
  (kindsD dy = false → ∀ e H', Ex H H' → H' e = some (.xd [("given", y)]) → E (.ref CK) (some e) H') ∧
  (kindsD dy = true → sizesD dz = false → ∀ e H', Ex H H' → H' e = some (.xd [("given", z)]) → E (.ref CS) (some e) H') ∧
  (kindsD dy = true → sizesD dz = true → rankD g dx dy dz = false → ∀ e H', Ex H H' → H' e = some (.xd [("given", x)]) → E (.ref CR) (some e) H')
def spRankDoor (K : PySem.W.Frag) (CK CR : Addr) (g : Int) : Sp := fun vs H Q E => ∃ (x y : V) (dx dy : PyData) (n : Nat) (ok : Addr → Prop), vs = [x, y] ∧ RdA K ok H n x dx ∧ RdA K ok H n y dy ∧ n ≤ 20 ∧
  (kindsD dy = true → roundsD (numsD dy) g dx = true → ∀ (r : Int) H', Ex H H' → 0 ≤ r → r ≤ 10 ^ 20 → Q (.int r) H') ∧
  (kindsD dy = false → ∀ e H', Ex H H' → H' e = some (.xd [("given", y)]) → E (.ref CK) (some e) H') ∧
  (kindsD dy = true → roundsD (numsD dy) g dx = false → ∀ e H', Ex H H' → H' e = some (.xd [("given", x)]) → E (.ref CR) (some e) H')
theorem num16_int {ok : Addr → Prop} {H : Hp} {n : Nat} {x : V} {d : PyData} (h : RdA K ok H n x d) (c : num16 d = true) : ∃ i, x = .int i ∧ d = .int i ∧ 0 ≤ i ∧ i ≤ 16 := by
  rcases h with h | ⟨a, rfl, rfl, _⟩
  · exact betw_int h c
  · cases c
theorem ok_many_rounds (T : TA2 K mg) : FnOk P w K mg base (L2.CX P w) 7 T.many_rounds.a T.many_rounds.fd ["count", "sizes"] (spManyDoor K T.InvalidNumber.C T.InvalidSizes.C) := by
  refine T.many_rounds.F.okX sc_many_rounds (fun vs H Q E h => ?_) (fun cdv A outer s H vs Q E hr h => ?_)
  · obtain ⟨x, y, dx, dy, n, ok, rfl, _⟩ := h; rfl
  obtain ⟨x, y, dx, dy, n, ok, rfl, hx, hy, q, qn, qs⟩ := h
  refine ⟨_, (pss_cons (ps_expr (by exact (pe_callS (ok_check_count T) (hr.mono (by decide)) rfl T.check_count.m T.check_count.F.kp T.check_count.b (fun σ => passAt (takes_of rfl rfl rfl rfl) σ) (pa_cons (pv 0) pa_nil))))
    (pss_cons (ps_expr (by exact (pe_callS (ok_check_sizes T) (hr.mono (by decide)) rfl T.check_sizes.m T.check_sizes.F.kp T.check_sizes.b (fun σ => passAt (takes_of rfl rfl rfl rfl) σ) (pa_cons (pv 1) pa_nil))))
    (pss_one (ps_ret (pe_call (ok_many T) (hr.mono (by decide)) rfl T.many.m T.many.F.kp T.many.b .nil pass0 (pa_cons (pv 0) (pa_cons (pv 1) (pa_cons (pe_glob (v := .int 0) rfl T.c_ON_LETTERS ⟨_, rfl⟩) pa_nil)))))))), ?_⟩
  refine ⟨_, rfl, x, dx, n, ok, rfl, hx, fun c H1 e1 => ?_, qn⟩
  refine ⟨_, rfl, y, dy, n, ok, rfl, hy.ex e1, fun c2 H2 e2 => ?_, fun no e H' ex he => qs c no e H' (e1.trans ex) he⟩
  obtain ⟨i, rfl, rfl, i0, i1⟩ := num16_int hx c
  obtain ⟨b, rfl, hb, hl2, hk2⟩ := sizes_get ((hy.ex (e1.trans e2)).rd (sizes_seq c2)) c2
  have ml := many_le (g := 0) (by decide) (numsD dy) i.toNat (by omega) hk2
  rw [Int.toNat_of_nonneg i0] at ml
  have top := (fc_mono (show i.toNat ≤ 16 by omega) (Nat.le_refl _)).2
  rw [fc_top] at top
  exact ⟨_, rfl, _, rfl, i, 0, b, numsD dy, rfl, hb, by omega, by decide, hk2, q c c2 _ _ (e1.trans e2) ml.1 (by omega)⟩
theorem ok_many_raised (T : TA2 K mg) : FnOk P w K mg base (L2.CX P w) 7 T.many_raised.a T.many_raised.fd ["count", "sizes"] (spManyDoor K T.InvalidNumber.C T.InvalidSizes.C) := by
  refine T.many_raised.F.okX sc_many_raised (fun vs H Q E h => ?_) (fun cdv A outer s H vs Q E hr h => ?_)
  · obtain ⟨x, y, dx, dy, n, ok, rfl, _⟩ := h; rfl
  obtain ⟨x, y, dx, dy, n, ok, rfl, hx, hy, q, qn, qs⟩ := h
  refine ⟨_, (pss_cons (ps_expr (by exact (pe_callS (ok_check_count T) (hr.mono (by decide)) rfl T.check_count.m T.check_count.F.kp T.check_count.b (fun σ => passAt (takes_of rfl rfl rfl rfl) σ) (pa_cons (pv 0) pa_nil))))
    (pss_cons (ps_expr (by exact (pe_callS (ok_check_sizes T) (hr.mono (by decide)) rfl T.check_sizes.m T.check_sizes.F.kp T.check_sizes.b (fun σ => passAt (takes_of rfl rfl rfl rfl) σ) (pa_cons (pv 1) pa_nil))))
    (pss_one (ps_ret (pe_call (ok_many T) (hr.mono (by decide)) rfl T.many.m T.many.F.kp T.many.b .nil pass0 (pa_cons (pv 0) (pa_cons (pv 1) (pa_cons (pe_glob (v := .int 1) rfl T.c_ON_WIRES ⟨_, rfl⟩) pa_nil)))))))), ?_⟩
  refine ⟨_, rfl, x, dx, n, ok, rfl, hx, fun c H1 e1 => ?_, qn⟩
  refine ⟨_, rfl, y, dy, n, ok, rfl, hy.ex e1, fun c2 H2 e2 => ?_, fun no e H' ex he => qs c no e H' (e1.trans ex) he⟩
  obtain ⟨i, rfl, rfl, i0, i1⟩ := num16_int hx c
  obtain ⟨b, rfl, hb, hl2, hk2⟩ := sizes_get ((hy.ex (e1.trans e2)).rd (sizes_seq c2)) c2
  have ml := many_le (g := 1) (by decide) (numsD dy) i.toNat (by omega) hk2
  rw [Int.toNat_of_nonneg i0] at ml
  have top := (fc_mono (show i.toNat ≤ 16 by omega) (Nat.le_refl _)).2
  rw [fc_top] at top
  exact ⟨_, rfl, _, rfl, i, 1, b, numsD dy, rfl, hb, by omega, by decide, hk2, q c c2 _ _ (e1.trans e2) ml.1 (by omega)⟩
theorem ok_rounds_of (T : TA2 K mg) : FnOk P w K mg base (L2.CX P w) 7 T.rounds_of.a T.rounds_of.fd ["rank", "kinds", "sizes"] (spRoundsDoor K T.InvalidKinds.C T.InvalidSizes.C T.InvalidRank.C 0) := by
  refine T.rounds_of.F.okX sc_rounds_of (fun vs H Q E h => ?_) (fun cdv A outer s H vs Q E hr h => ?_)
  · obtain ⟨x, y, z, dx, dy, dz, n, ok, rfl, _⟩ := h; rfl
  obtain ⟨x, y, z, dx, dy, dz, n, ok, rfl, hx, hy, hz, q, qk, qs, qr⟩ := h
  refine ⟨_, (pss_cons (ps_expr (by exact (pe_callS (ok_check_rank T) (hr.mono (by decide)) rfl T.check_rank.m T.check_rank.F.kp T.check_rank.b (fun σ => passAt (takes_of rfl rfl rfl rfl) σ) (pa_cons (pv 0) (pa_cons (pv 1) (pa_cons (pv 2) (pa_cons (pe_glob (v := .int 0) rfl T.c_ON_LETTERS ⟨_, rfl⟩) pa_nil)))))))
    (pss_one (ps_ret (pe_call (ok_rounds_at T) (hr.mono (by decide)) rfl T.rounds_at.m T.rounds_at.F.kp T.rounds_at.b .nil pass0 (pa_cons (pv 0) (pa_cons (pv 1) (pa_cons (pv 2) (pa_cons (pe_glob (v := .int 0) rfl T.c_ON_LETTERS ⟨_, rfl⟩) pa_nil)))))))), ?_⟩
  refine ⟨_, rfl, _, rfl, _, rfl, x, y, z, dx, dy, dz, n, ok, 0, rfl, hx, hy, hz, .inl rfl, fun c1 c2 c3 H1 e1 => ?_, qk, qs, qr⟩
  obtain ⟨a, rfl, ha, hk16, hk1⟩ := kinds_get ((hy.ex e1).rd (kinds_seq c1)) c1
  obtain ⟨b, rfl, hb, hl2, hk2⟩ := sizes_get ((hz.ex e1).rd (sizes_seq c2)) c2
  have hx0 : Rd K ok H n x dx := by
    rcases hx with h | ⟨a, rfl, rfl, _⟩
    · exact h
    · cases c3
  obtain ⟨i, rfl, rfl, i0, i1⟩ := betw_int hx0 c3
  exact ⟨_, rfl, _, rfl, _, rfl, i, a, b, numsD dy, numsD dz, 0, rfl, ha, hb, kinds_nodup c1, hk16, hl2, hk2, .inl rfl, i0, by omega, fun p xs H' e h => q c1 c2 c3 p xs H' (e1.trans e) h⟩
theorem ok_raised_of (T : TA2 K mg) : FnOk P w K mg base (L2.CX P w) 7 T.raised_of.a T.raised_of.fd ["rank", "wires", "sizes"] (spRoundsDoor K T.InvalidKinds.C T.InvalidSizes.C T.InvalidRank.C 1) := by
  refine T.raised_of.F.okX sc_raised_of (fun vs H Q E h => ?_) (fun cdv A outer s H vs Q E hr h => ?_)
  · obtain ⟨x, y, z, dx, dy, dz, n, ok, rfl, _⟩ := h; rfl
  obtain ⟨x, y, z, dx, dy, dz, n, ok, rfl, hx, hy, hz, q, qk, qs, qr⟩ := h
  refine ⟨_, (pss_cons (ps_expr (by exact (pe_callS (ok_check_rank T) (hr.mono (by decide)) rfl T.check_rank.m T.check_rank.F.kp T.check_rank.b (fun σ => passAt (takes_of rfl rfl rfl rfl) σ) (pa_cons (pv 0) (pa_cons (pv 1) (pa_cons (pv 2) (pa_cons (pe_glob (v := .int 1) rfl T.c_ON_WIRES ⟨_, rfl⟩) pa_nil)))))))
    (pss_one (ps_ret (pe_call (ok_rounds_at T) (hr.mono (by decide)) rfl T.rounds_at.m T.rounds_at.F.kp T.rounds_at.b .nil pass0 (pa_cons (pv 0) (pa_cons (pv 1) (pa_cons (pv 2) (pa_cons (pe_glob (v := .int 1) rfl T.c_ON_WIRES ⟨_, rfl⟩) pa_nil)))))))), ?_⟩
  refine ⟨_, rfl, _, rfl, _, rfl, x, y, z, dx, dy, dz, n, ok, 1, rfl, hx, hy, hz, .inr rfl, fun c1 c2 c3 H1 e1 => ?_, qk, qs, qr⟩
  obtain ⟨a, rfl, ha, hk16, hk1⟩ := kinds_get ((hy.ex e1).rd (kinds_seq c1)) c1
  obtain ⟨b, rfl, hb, hl2, hk2⟩ := sizes_get ((hz.ex e1).rd (sizes_seq c2)) c2
  have hx0 : Rd K ok H n x dx := by
    rcases hx with h | ⟨a, rfl, rfl, _⟩
    · exact h
    · cases c3
  obtain ⟨i, rfl, rfl, i0, i1⟩ := betw_int hx0 c3
  exact ⟨_, rfl, _, rfl, _, rfl, i, a, b, numsD dy, numsD dz, 1, rfl, ha, hb, kinds_nodup c1, hk16, hl2, hk2, .inr rfl, i0, by omega, fun p xs H' e h => q c1 c2 c3 p xs H' (e1.trans e) h⟩
theorem ok_rank_of (T : TA2 K mg) : FnOk P w K mg base (L2.CX P w) 7 T.rank_of.a T.rank_of.fd ["rounds", "kinds"] (spRankDoor K T.InvalidKinds.C T.InvalidRounds.C 0) := by
  refine T.rank_of.F.okX sc_rank_of (fun vs H Q E h => ?_) (fun cdv A outer s H vs Q E hr h => ?_)
  · obtain ⟨x, y, dx, dy, n, ok, rfl, _⟩ := h; rfl
  obtain ⟨x, y, dx, dy, n, ok, rfl, hx, hy, hn, q, qk, qr⟩ := h
  refine ⟨_, (pss_cons (ps_expr (by exact (pe_callS (ok_check_rounds T) (hr.mono (by decide)) rfl T.check_rounds.m T.check_rounds.F.kp T.check_rounds.b (fun σ => passAt (takes_of rfl rfl rfl rfl) σ) (pa_cons (pv 0) (pa_cons (pv 1) (pa_cons (pe_glob (v := .int 0) rfl T.c_ON_LETTERS ⟨_, rfl⟩) pa_nil))))))
    (pss_one (ps_ret (pe_call (ok_rank_at T) (hr.mono (by decide)) rfl T.rank_at.m T.rank_at.F.kp T.rank_at.b .nil pass0 (pa_cons (pv 0) (pa_cons (pv 1) (pa_cons (pe_glob (v := .int 0) rfl T.c_ON_LETTERS ⟨_, rfl⟩) pa_nil))))))), ?_⟩
  refine ⟨_, rfl, _, rfl, x, y, dx, dy, n, ok, 0, rfl, hx, hy, hn, .inl rfl, fun c1 c2 H1 e1 => ?_, qk, qr⟩
  obtain ⟨a, rfl, ha, hk16, hk1⟩ := kinds_get ((hy.ex e1).rd (kinds_seq c1)) c1
  exact ⟨_, rfl, _, rfl, x, a, dx, n, ok, numsD dy, 0, rfl, rounds_rd (hx.ex e1) c2, ha, kinds_nodup c1, hk16, .inl rfl, c2, fun r H' e r0 r1 => q c1 c2 r H' (e1.trans e) r0 r1⟩
theorem ok_raised_rank (T : TA2 K mg) : FnOk P w K mg base (L2.CX P w) 7 T.raised_rank.a T.raised_rank.fd ["rounds", "wires"] (spRankDoor K T.InvalidKinds.C T.InvalidRounds.C 1) := by
  refine T.raised_rank.F.okX sc_raised_rank (fun vs H Q E h => ?_) (fun cdv A outer s H vs Q E hr h => ?_)
  · obtain ⟨x, y, dx, dy, n, ok, rfl, _⟩ := h; rfl
  obtain ⟨x, y, dx, dy, n, ok, rfl, hx, hy, hn, q, qk, qr⟩ := h
  refine ⟨_, (pss_cons (ps_expr (by exact (pe_callS (ok_check_rounds T) (hr.mono (by decide)) rfl T.check_rounds.m T.check_rounds.F.kp T.check_rounds.b (fun σ => passAt (takes_of rfl rfl rfl rfl) σ) (pa_cons (pv 0) (pa_cons (pv 1) (pa_cons (pe_glob (v := .int 1) rfl T.c_ON_WIRES ⟨_, rfl⟩) pa_nil))))))
    (pss_one (ps_ret (pe_call (ok_rank_at T) (hr.mono (by decide)) rfl T.rank_at.m T.rank_at.F.kp T.rank_at.b .nil pass0 (pa_cons (pv 0) (pa_cons (pv 1) (pa_cons (pe_glob (v := .int 1) rfl T.c_ON_WIRES ⟨_, rfl⟩) pa_nil))))))), ?_⟩
  refine ⟨_, rfl, _, rfl, x, y, dx, dy, n, ok, 1, rfl, hx, hy, hn, .inr rfl, fun c1 c2 H1 e1 => ?_, qk, qr⟩
  obtain ⟨a, rfl, ha, hk16, hk1⟩ := kinds_get ((hy.ex e1).rd (kinds_seq c1)) c1
  exact ⟨_, rfl, _, rfl, x, a, dx, n, ok, numsD dy, 1, rfl, rounds_rd (hx.ex e1) c2, ha, kinds_nodup c1, hk16, .inr rfl, c2, fun r H' e r0 r1 => q c1 c2 r H' (e1.trans e) r0 r1⟩
end
end L2.U


set_option Elab.async false
set_option linter.all false
set_option maxRecDepth 100000
set_option maxHeartbeats 4000000
namespace L2.U
open PySem PySem.Spec PyProof.Rows Evl



abbrev s_law_choose : Stmt := top 47
theorem sc_law_choose : FnScope ["many", "few", "found", "k"] ["many", "few"] (defScope s_law_choose) := ⟨rfl, rfl, rfl, by decide +kernel, rfl, by decide +kernel, by decide +kernel⟩
abbrev s_law_many : Stmt := top 48
theorem sc_law_many : FnScope ["count", "sizes", "more", "found", "size"] ["count", "sizes", "more"] (defScope s_law_many) := ⟨rfl, rfl, rfl, by decide +kernel, rfl, by decide +kernel, by decide +kernel⟩
abbrev s_law_is_between : Stmt := top 49
theorem sc_law_is_between : FnScope ["value", "least", "most"] ["value", "least", "most"] (defScope s_law_is_between) := ⟨rfl, rfl, rfl, by decide +kernel, rfl, by decide +kernel, by decide +kernel⟩
abbrev s_law_are_kinds : Stmt := top 50
theorem sc_law_are_kinds : FnScope ["value", "kind", "k"] ["value"] (defScope s_law_are_kinds) := ⟨rfl, rfl, rfl, by decide +kernel, rfl, by decide +kernel, by decide +kernel⟩
abbrev s_law_are_sizes : Stmt := top 51
theorem sc_law_are_sizes : FnScope ["value", "size"] ["value"] (defScope s_law_are_sizes) := ⟨rfl, rfl, rfl, by decide +kernel, rfl, by decide +kernel, by decide +kernel⟩
abbrev s_law_are_rounds : Stmt := top 52
theorem sc_law_are_rounds : FnScope ["value", "kinds", "more", "left", "at", "one", "kind", "k"] ["value", "kinds", "more"] (defScope s_law_are_rounds) := ⟨rfl, rfl, rfl, by decide +kernel, rfl, by decide +kernel, by decide +kernel⟩
abbrev s_law_refused : Stmt := top 53
theorem sc_law_refused : FnScope ["kind", "passed", "more"] ["kind", "passed"] (defScope s_law_refused) := ⟨rfl, rfl, rfl, by decide +kernel, rfl, by decide +kernel, by decide +kernel⟩
abbrev s_law_asked : Stmt := top 54
theorem sc_law_asked : FnScope ["kind", "named", "passed"] ["kind", "named", "passed"] (defScope s_law_asked) := ⟨rfl, rfl, rfl, by decide +kernel, rfl, by decide +kernel, by decide +kernel⟩
abbrev s_law_told : Stmt := top 55
theorem sc_law_told : FnScope ["kind", "named", "passed", "error"] ["kind", "named", "passed"] (defScope s_law_told) := ⟨rfl, rfl, rfl, by decide +kernel, rfl, by decide +kernel, by decide +kernel⟩
abbrev s_law_right : Stmt := top 56
theorem sc_law_right : FnScope ["kind", "named", "values", "one", "passed", "told", "refused"] ["kind", "named", "values"] (defScope s_law_right) := ⟨rfl, rfl, rfl, by decide +kernel, rfl, by decide +kernel, by decide +kernel⟩
abbrev s_law_kinds : Stmt := top 57
theorem sc_law_kinds : FnScope ["box", "count", "way", "found", "last", "turn"] ["box", "count"] (defScope s_law_kinds) := ⟨rfl, rfl, rfl, by decide +kernel, rfl, by decide +kernel, by decide +kernel⟩
abbrev s_law_sizes : Stmt := top 58
theorem sc_law_sizes : FnScope ["box", "count", "more", "left", "found", "turn", "size"] ["box", "count", "more"] (defScope s_law_sizes) := ⟨rfl, rfl, rfl, by decide +kernel, rfl, by decide +kernel, by decide +kernel⟩
abbrev s_law_drawn : Stmt := top 59
theorem sc_law_drawn : FnScope ["box", "kinds", "sizes", "more", "left", "found", "size", "rest", "turn"] ["box", "kinds", "sizes", "more"] (defScope s_law_drawn) := ⟨rfl, rfl, rfl, by decide +kernel, rfl, by decide +kernel, by decide +kernel⟩
abbrev s_law_odd : Stmt := top 60
theorem sc_law_odd : FnScope ["box"] ["box"] (defScope s_law_odd) := ⟨rfl, rfl, rfl, by decide +kernel, rfl, by decide +kernel, by decide +kernel⟩
abbrev s_law_spoilt_list : Stmt := top 61
theorem sc_law_spoilt_list : FnScope ["box", "items", "odd", "longer", "at", "way"] ["box", "items", "odd", "longer"] (defScope s_law_spoilt_list) := ⟨rfl, rfl, rfl, by decide +kernel, rfl, by decide +kernel, by decide +kernel⟩
abbrev s_law_spoilt_kinds : Stmt := top 62
theorem sc_law_spoilt_kinds : FnScope ["box", "kinds", "odd", "at"] ["box", "kinds"] (defScope s_law_spoilt_kinds) := ⟨rfl, rfl, rfl, by decide +kernel, rfl, by decide +kernel, by decide +kernel⟩
abbrev s_law_spoilt_sizes : Stmt := top 63
theorem sc_law_spoilt_sizes : FnScope ["box", "sizes"] ["box", "sizes"] (defScope s_law_spoilt_sizes) := ⟨rfl, rfl, rfl, by decide +kernel, rfl, by decide +kernel, by decide +kernel⟩
abbrev s_law_spoilt_rounds : Stmt := top 64
theorem sc_law_spoilt_rounds : FnScope ["box", "rounds", "kinds", "way", "at", "one", "place", "other", "odd", "kind"] ["box", "rounds", "kinds"] (defScope s_law_spoilt_rounds) := ⟨rfl, rfl, rfl, by decide +kernel, rfl, by decide +kernel, by decide +kernel⟩
abbrev s_law_question : Stmt := top 65
theorem sc_law_question : FnScope ["box", "kind", "bits", "more", "count", "kinds", "sizes", "many", "rounds", "first", "last", "handed", "rank"] ["box", "kind", "bits"] (defScope s_law_question) := ⟨rfl, rfl, rfl, by decide +kernel, rfl, by decide +kernel, by decide +kernel⟩
abbrev s_law : Stmt := top 66
theorem sc_law : FnScope ["script", "k", "box", "named", "asked", "turn", "bits", "at"] ["script"] (defScope s_law) := ⟨rfl, rfl, rfl, by decide +kernel, rfl, by decide +kernel, by decide +kernel⟩
def kw321 {α : Type} : List α → List α → List α
  | [], [a, b, c] => [c, b, a]
  | _, _ => []
theorem kw321_rel {vs : List V} {us : List Value} {zs : List V} {ws : List Value} (r : Vals vs us) (t : Vals zs ws) : Vals (kw321 vs zs) (kw321 us ws) := by
  cases r with
  | cons _ _ => cases t <;> exact .nil
  | nil => cases t with
    | nil => exact .nil
    | cons a t => cases t with
      | nil => exact .nil
      | cons b t => cases t with
        | nil => exact .nil
        | cons c t => cases t with
          | nil => exact .cons c (.cons b (.cons a .nil))
          | cons _ _ => exact .nil
theorem kb321 {K : PySem.W.Frag} {x qual : Str} {st : Stmt} {f : Addr} {fd : FuncData} {p q r k l m : Str} (F : Fun K x qual st f fd)
    (h : ∀ (kV doc pm : Value) (an : Option Addr) (cdv ct : Value) (u w z : Value), bindArgs (PySem.W.fnOf x qual (defArgs st) (defBody st) (defScope st) .none kV doc pm an cdv ct) ⟨[], [(k, u), (l, w), (m, z)]⟩ = pure [(p, z), (q, w), (r, u)]) : KBinds K fd [p, q, r] [k, l, m] kw321 kw321 := by
  obtain ⟨oc, od, kV, doc, pm, an, cdv, ct, osl, rfl, lk, hcd⟩ := F.ex
  refine ⟨fun s us ws _ hl => ?_, kw321_rel⟩
  match us, ws, hl with
  | [], [u, w, z], _ => exact .of_eq (h kV doc pm an cdv ct u w z)
structure TK (K : PySem.W.Frag) (mg : Str → Option Value) extends TA2 K mg where
  law_choose : DefAt K mg "_law_choose" s_law_choose ["many", "few"]
  law_many : DefAt K mg "_law_many" s_law_many ["count", "sizes", "more"]
  law_is_between : DefAt K mg "_law_is_between" s_law_is_between ["value", "least", "most"]
  law_are_kinds : DefAt K mg "_law_are_kinds" s_law_are_kinds ["value"]
  law_are_sizes : DefAt K mg "_law_are_sizes" s_law_are_sizes ["value"]
  law_are_rounds : DefAt K mg "_law_are_rounds" s_law_are_rounds ["value", "kinds", "more"]
  law_refused : DefAt K mg "_law_refused" s_law_refused ["kind", "passed"]
  law_asked : DefAt K mg "_law_asked" s_law_asked ["kind", "named", "passed"]
  law_told : DefAt K mg "_law_told" s_law_told ["kind", "named", "passed"]
  law_right : DefAt K mg "_law_right" s_law_right ["kind", "named", "values"]
  law_kinds : DefAt K mg "_law_kinds" s_law_kinds ["box", "count"]
  law_sizes : DefAt K mg "_law_sizes" s_law_sizes ["box", "count", "more"]
  law_drawn : DefAt K mg "_law_drawn" s_law_drawn ["box", "kinds", "sizes", "more"]
  law_odd : DefAt K mg "_law_odd" s_law_odd ["box"]
  law_spoilt_list : DefAt K mg "_law_spoilt_list" s_law_spoilt_list ["box", "items", "odd", "longer"]
  law_spoilt_kinds : DefAt K mg "_law_spoilt_kinds" s_law_spoilt_kinds ["box", "kinds"]
  law_spoilt_sizes : DefAt K mg "_law_spoilt_sizes" s_law_spoilt_sizes ["box", "sizes"]
  law_spoilt_rounds : DefAt K mg "_law_spoilt_rounds" s_law_spoilt_rounds ["box", "rounds", "kinds"]
  law_question : DefAt K mg "_law_question" s_law_question ["box", "kind", "bits"]
  law : DefAt K mg "law" s_law ["script"]
  kb_many_rounds_sizes_count : KBinds K many_rounds.fd ["count", "sizes"] ["sizes", "count"] kw21 kw21
  kb_rounds_of_sizes_kinds_rank : KBinds K rounds_of.fd ["rank", "kinds", "sizes"] ["sizes", "kinds", "rank"] kw321 kw321
  kb_rank_of_kinds_rounds : KBinds K rank_of.fd ["rounds", "kinds"] ["kinds", "rounds"] kw21 kw21
  kb_many_raised_sizes_count : KBinds K many_raised.fd ["count", "sizes"] ["sizes", "count"] kw21 kw21
  kb_raised_of_sizes_wires_rank : KBinds K raised_of.fd ["rank", "wires", "sizes"] ["sizes", "wires", "rank"] kw321 kw321
  kb_raised_rank_wires_rounds : KBinds K raised_rank.fd ["rounds", "wires"] ["wires", "rounds"] kw21 kw21
  kb_answers_of_wires_rounds : KBinds K answers_of.fd ["rounds", "wires"] ["wires", "rounds"] kw21 kw21
  TalkError_C : Addr
  TalkError_gC : mg "TalkError" = some (.ref TalkError_C)

  eNN : PySem.W.exmOne K (.ref InvalidNumber.C) (.ref InvalidNumber.C) = some true
  eKN : PySem.W.exmOne K (.ref InvalidKinds.C) (.ref InvalidNumber.C) = some false
  eKK : PySem.W.exmOne K (.ref InvalidKinds.C) (.ref InvalidKinds.C) = some true
  eSN : PySem.W.exmOne K (.ref InvalidSizes.C) (.ref InvalidNumber.C) = some false
  eSK : PySem.W.exmOne K (.ref InvalidSizes.C) (.ref InvalidKinds.C) = some false
  eSS : PySem.W.exmOne K (.ref InvalidSizes.C) (.ref InvalidSizes.C) = some true
  eRN : PySem.W.exmOne K (.ref InvalidRank.C) (.ref InvalidNumber.C) = some false
  eRK : PySem.W.exmOne K (.ref InvalidRank.C) (.ref InvalidKinds.C) = some false
  eRS : PySem.W.exmOne K (.ref InvalidRank.C) (.ref InvalidSizes.C) = some false
  eRR : PySem.W.exmOne K (.ref InvalidRank.C) (.ref InvalidRank.C) = some true
  eON : PySem.W.exmOne K (.ref InvalidRounds.C) (.ref InvalidNumber.C) = some false
  eOK : PySem.W.exmOne K (.ref InvalidRounds.C) (.ref InvalidKinds.C) = some false
  eOS : PySem.W.exmOne K (.ref InvalidRounds.C) (.ref InvalidSizes.C) = some false
  eOR : PySem.W.exmOne K (.ref InvalidRounds.C) (.ref InvalidRank.C) = some false
  eOO : PySem.W.exmOne K (.ref InvalidRounds.C) (.ref InvalidRounds.C) = some true
  z_max : mg "max" = none
  z_min : mg "min" = none
  z_sorted : mg "sorted" = none
section
variable {P : Program} {w : World} {K : PySem.W.Frag} {mg : Str → Option Value} {base : Heap}
theorem two_le : 2 ≤ sizeLine := by decide
theorem ksorted {X : Cx} (K : PySem.W.Frag) (h : X.K = K := by rfl) : CallR X (.builtin "sorted") (rSorted K) := by subst h; exact cr_sorted
section
variable {X : Cx} {o e : Expr} {es : List Expr} {to : TE} {t : TA} {name : Str} {apos cpos : Pos} {T id : String} {r : V → List V → Hp → VK → Prop}
theorem pe_bmK (K : PySem.W.Frag) (pa : PlainAttrs T) (slot : Slot T name id) (hty : typeOf (.builtin id) = pure (.type "method_descriptor")) (hm : MtR X id r) (ho : PE X o to) (ha : PA X (e :: es) t) (hk : X.K = K := by rfl)
    (hbase : attributeBase o name X.env (eval o X.env) = eval o X.env := by rfl)
    (hfew : ((backTo cpos (starEach (e :: es) X.env)).all (fun x => !x.1) && (backToKw cpos (keywordEach [] X.env)).all (fun x => x.1.isSome)
      && decide ((e :: es).length + ([] : List Keyword).length + (if ([] : List Keyword).isEmpty then 0 else 1) < 30)) = true := by rfl)
    (hline : (apos.endLine == cpos.line) = true := by rfl) (hs : starEach (e :: es) X.env = (false, eval e X.env) :: starEach es X.env := by rfl) (hplain : (backTo cpos (starEach es X.env)).any (·.1) = false := by rfl) :
    PE X (.Call (.Attribute o name apos) (e :: es) [] cpos) (tBM K T r to t) := by
  subst hk
  exact pe_bm pa slot hty hm ho ha hbase hfew hline hs hplain
end
theorem kpopAt {X : Cx} (K : PySem.W.Frag) (h : X.K = K := by rfl) : MtM X "list.pop" rPopAt := mt_popAt


theorem Rd.lstD {ok : Addr → Prop} {H : Hp} {n : Nat} {xs : List V} {ds : List PyData} (r : RdL K ok H n xs ds) (hn : n ≤ 60) : SeqAt.shaped (.list ds) = true := by
  have lay := layAll_of (ds := ds) (n := n) fun d hd => by
    obtain ⟨i, hi⟩ := List.mem_iff_getElem?.mp hd
    have hlt := (List.getElem?_eq_some_iff.mp hi).1
    exact (r.2 i _ d (List.getElem?_eq_getElem (by rw [r.1]; exact hlt)) hi).lay
  simp only [SeqAt.shaped, PyData.canLay0, PyData.depth, lay.1, Bool.true_and]
  exact decide_eq_true (by omega)
theorem eq_empty_b {ok : Addr → Prop} {ta : TE} {σ : L2.St} {H : Hp} {n : Nat} {xs : List V} {ds : List PyData} (h : EvL ta σ H xs) (r : ∀ H2, Ex H H2 → RdL K ok H2 n xs ds) (hn : n ≤ 60) : Ev (tOp (rEqD K) ta (tLst tNil)) σ H (.bl ds.isEmpty) := by
  refine ev_opLL h (el_lst ea_nil (Nat.zero_le _)) fun p q H1 hp hq e1 => rv_val fun H2 e2 Q k => ?_
  have r2 := r H2 (e1.trans e2)
  refine ⟨.list ds, .list [], .lst (SqL.of (e2 _ _ hp)) (dpAll_of r2.1 fun i x d hx hd => (r2.2 i x d hx hd).dp), .lst (SqL.of (e2 _ _ hq)) .nil, Rd.lstD r2 hn, rfl, ?_⟩
  cases ds with
  | nil => exact k
  | cons d ds => exact k
theorem ne_empty_b {ok : Addr → Prop} {ta : TE} {σ : L2.St} {H : Hp} {n : Nat} {xs : List V} {ds : List PyData} (h : EvL ta σ H xs) (r : ∀ H2, Ex H H2 → RdL K ok H2 n xs ds) (hn : n ≤ 60) : Ev (tOp (rNeD K) ta (tLst tNil)) σ H (.bl (!ds.isEmpty)) := by
  refine ev_opLL h (el_lst ea_nil (Nat.zero_le _)) fun p q H1 hp hq e1 => rv_val fun H2 e2 Q k => ?_
  have r2 := r H2 (e1.trans e2)
  refine ⟨.list ds, .list [], .lst (SqL.of (e2 _ _ hp)) (dpAll_of r2.1 fun i x d hx hd => (r2.2 i x d hx hd).dp), .lst (SqL.of (e2 _ _ hq)) .nil, Rd.lstD r2 hn, rfl, ?_⟩
  cases ds with
  | nil => exact k
  | cons d ds => exact k
theorem getD_some {α : Type} {xs : List α} {i : Nat} (d : α) (h : i < xs.length) : xs[i]? = some (xs.getD i d) := by
  rw [List.getD_eq_getElem?_getD, List.getElem?_eq_getElem h]; rfl
theorem given_rd {ok : Addr → Prop} {H : Hp} {n : Nat} {xs : List V} {ds : List PyData} (f : Nat → Bool) (r : RdL K ok H n xs ds) : RdL K ok H n (given xs.length f (fun i => xs.getD i .non)) (((List.range xs.length).filter f).map (fun i => ds.getD i .none)) := by
  unfold given
  refine ⟨by rw [List.length_map, List.length_map], fun i x e hx he => ?_⟩
  rw [List.getElem?_map] at hx he
  cases hk : ((List.range xs.length).filter f)[i]? with
  | none => rw [hk] at hx; cases hx
  | some k =>
    rw [hk] at hx he
    obtain rfl := Option.some.inj hx
    obtain rfl := Option.some.inj he
    have km := List.mem_of_getElem? hk
    rw [List.mem_filter, List.mem_range] at km
    exact r.2 k _ _ (getD_some _ km.1) (getD_some _ (by rw [← r.1]; exact km.1))
theorem given_emp {n : Nat} {α : Type} {ds : List PyData} {f : Nat → Bool} {p : PyData → Bool} {g : Nat → α} (l : n = ds.length) (h : ∀ i e, ds[i]? = some e → f i = !p e) : (((List.range n).filter f).map g).isEmpty = ds.all p := by
  rw [Bool.eq_iff_iff, List.isEmpty_iff, List.map_eq_nil_iff, List.filter_eq_nil_iff, List.all_eq_true]
  constructor
  · intro hh e he
    obtain ⟨k, hk⟩ := List.mem_iff_getElem?.mp he
    have hlt := (List.getElem?_eq_some_iff.mp hk).1
    have := hh k (by rw [List.mem_range]; omega)
    rw [h k e hk] at this
    simpa using this
  · intro hh k hk
    rw [List.mem_range] at hk
    have hd : ds[k]? = some (ds[k]'(by omega)) := List.getElem?_eq_getElem _
    rw [h k _ hd, hh _ (List.getElem_mem _)]
    decide
theorem rdl_ints {ok : Addr → Prop} {H : Hp} {n : Nat} (ns : List Int) : RdL K ok H n (ns.map V.int) (ns.map PyData.int) := by
  refine ⟨by rw [List.length_map, List.length_map], fun i x d hx hd => ?_⟩
  obtain ⟨z, hz, rfl⟩ := ints_get hx
  rw [List.getElem?_map, hz] at hd
  obtain rfl := Option.some.inj hd
  exact .int z
theorem given_ints {n : Nat} (f : Nat → Bool) : given n f (fun i => V.int (i : Int)) = (((List.range n).filter f).map (fun i : Nat => (i : Int))).map V.int := by
  unfold given
  rw [List.map_map]
  rfl
theorem given_idx {n : Nat} {f g : Nat → Bool} (h : ∀ i, i < n → f i = !g i) : ((((List.range n).filter f).map (fun i : Nat => (i : Int))).map PyData.int).isEmpty = (List.range n).all g := by
  rw [Bool.eq_iff_iff, List.isEmpty_iff, List.map_eq_nil_iff, List.map_eq_nil_iff, List.filter_eq_nil_iff, List.all_eq_true]
  constructor
  · intro hh e he
    have := hh e he
    rw [h e (List.mem_range.mp he)] at this
    simpa using this
  · intro hh k hk
    rw [h k (List.mem_range.mp hk), hh k hk]
    decide
def spLawBetween (K : PySem.W.Frag) : Sp := fun vs H Q _ => ∃ x d n ok lo hi, vs = [x, .int lo, .int hi] ∧ RdA K ok H n x d ∧ Q (.bl (betwD lo hi d)) H
theorem ok_law_is_between (T : TK K mg) : FnOk P w K mg base CX0 1 T.law_is_between.a T.law_is_between.fd ["value", "least", "most"] (spLawBetween K) := by
  refine T.law_is_between.F.ok sc_law_is_between (fun vs H Q E h => ?_) (fun cdv A outer s H vs Q E hr h => ?_)
  · obtain ⟨x, d, n, ok, lo, hi, rfl, _⟩ := h; rfl
  obtain ⟨x, d, n, ok, lo, hi, rfl, h, q⟩ := h
  refine ⟨_, (pss_one (ps_ret (pe_and (pe_callB (kisi K) (by rfl) T.z_isinstance (by decide +kernel) (pa_cons (pv 0) (pa_cons (pe_bltn (v := .ty "int") rfl T.z_int (by decide +kernel) rfl) pa_nil))) (pe_and (pe_not (pe_callB (kisi K) (by rfl) T.z_isinstance (by decide +kernel) (pa_cons (pv 0) (pa_cons (pe_bltn (v := .ty "bool") rfl T.z_bool (by decide +kernel) rfl) pa_nil)))) (pe_one (pe_chain op_le op_le (pv 1) (pv 0) (pv 2))))))), ?_⟩
  rcases h with h | ⟨a, rfl, rfl, _, hd⟩
  case inr => exact ⟨_, rfl, _, _, _, _, false, rfl, .ty "int", .base (.dK hd), kit_ty (by decide +kernel), ⟨_, rfl, iteF q⟩⟩
  cases h with
  | non => exact ⟨_, rfl, _, _, _, _, false, rfl, .ty "int", .base .non, kit_ty (by decide +kernel), ⟨_, rfl, iteF q⟩⟩
  | bl b => exact ⟨_, rfl, _, _, _, _, true, rfl, .ty "int", .base (.bl b), kit_ty (by decide +kernel), ⟨_, rfl, iteT ⟨_, rfl, _, _, _, _, true, rfl, .ty "bool", .base (.bl b), kit_ty (by decide +kernel), ⟨_, rfl, _, rfl, iteF q⟩⟩⟩⟩
  | str z _ _ => exact ⟨_, rfl, _, _, _, _, false, rfl, .ty "int", .base (.str z), kit_ty (by decide +kernel), ⟨_, rfl, iteF q⟩⟩
  | lst h1 => exact ⟨_, rfl, _, _, _, _, false, rfl, .ty "int", tyL (SqL.of h1), kit_ty (by decide +kernel), ⟨_, rfl, iteF q⟩⟩
  | tup h1 => exact ⟨_, rfl, _, _, _, _, false, rfl, .ty "int", tyT h1, kit_ty (by decide +kernel), ⟨_, rfl, iteF q⟩⟩
  | int i =>
    refine ⟨_, rfl, _, _, _, _, true, rfl, .ty "int", .base (.int i), kit_ty (by decide +kernel), ⟨_, rfl, iteT ⟨_, rfl, _, _, _, _, false, rfl, .ty "bool", .base (.int i), kit_ty (by decide +kernel), ⟨_, rfl, _, rfl, iteT ?_⟩⟩⟩⟩
    refine ⟨_, rfl, _, rfl, _, _, rfl, rfl, _, rfl, ite2 (fun c => ?_) (fun c => ?_)⟩
    · have c' := of_decide_eq_true c
      refine ⟨_, rfl, _, _, rfl, rfl, ?_⟩
      have e : betwD lo hi (.int i) = decide (i ≤ hi) := by show decide (lo ≤ i ∧ i ≤ hi) = _; simp [c']
      rw [e] at q
      exact q
    · have c' := of_decide_eq_false (Bool.eq_false_iff.mpr c)
      rw [show betwD lo hi (.int i) = false by show decide (lo ≤ i ∧ i ≤ hi) = false; simp [c']] at q
      exact q
theorem cn_step : ∀ n : Fin 17, ∀ k : Fin 17, k.val < n.val → (Cn n.val k.val * ((n.val : Int) - (k.val : Int))) / ((k.val : Int) + 1) = Cn n.val (k.val + 1) := by decide +kernel
def spChoose : Sp := fun vs H Q _ => ∃ (n : Nat) (s : Int), vs = [.int (n : Int), .int s] ∧ n ≤ 16 ∧ 1 ≤ s ∧ Q (.int (if (n : Int) < s then 0 else PySem.W.mcComb (n : Int) s)) H
theorem ok_law_choose (T : TK K mg) : FnOk P w K mg base CX0 1 T.law_choose.a T.law_choose.fd ["many", "few"] spChoose := by
  refine T.law_choose.F.ok sc_law_choose (fun vs H Q E h => ?_) (fun cdv A outer s H vs Q E hr h => ?_)
  · obtain ⟨n, s, rfl, _⟩ := h; rfl
  obtain ⟨n, z, rfl, hn, hz, q⟩ := h
  refine ⟨_, (pss_cons (ps_if (pt_cmpR op_gt (pv 1) (pv 0) (nomark _)) (pss_one (ps_ret pe_int)) pss_nil)
    (pss_cons (ps_set (i := 2) sc_law_choose.nd rfl (Or.inl rfl) pe_int)
    (pss_cons (ps_for PassesOwn.never rfl (pi_range1 rfl T.z_range (pa_cons (pv 1) pa_nil)) (pg_name (i := 3) sc_law_choose.nd rfl (Or.inl rfl)) (pss_one (ps_set (i := 2) sc_law_choose.nd rfl (Or.inl rfl) (pe_op op_fdiv (pe_op op_mul (pv 2) (pe_op op_sub (pv 0) (pv 3))) (pe_op op_add (pv 3) pe_int)))))
    (pss_one (ps_ret (pv 2)))))), ?_⟩
  refine ⟨_, rfl, _, rfl, _, _, rfl, rfl, _, rfl, ite2 (fun c => ?_) (fun c => ?_)⟩
  · rw [if_pos (of_decide_eq_true c)] at q
    exact q
  · have c' : ¬ (n : Int) < z := of_decide_eq_false (Bool.eq_false_iff.mpr c)
    rw [if_neg c'] at q
    obtain ⟨m, rfl⟩ : ∃ m : Nat, z = (m : Int) := ⟨z.toNat, by omega⟩
    refine ⟨_, rfl, _, rfl, by omega, by omega, for_range (lo := 0) (n := ((m : Int)).toNat) (fun i σ H' => H' = H ∧ ∃ v, σ = [some (.int (n : Int)), some (.int (m : Int)), some (.int (Cn n i)), v]) ⟨rfl, none, by rw [cn_zero ⟨n, by omega⟩]; rfl⟩ ?_ ?_⟩
    · rintro i σ H' hi ⟨rfl, v, rfl⟩
      have st := cn_step ⟨n, by omega⟩ ⟨i, by omega⟩ (show i < n by omega)
      have ps := cn_pos ⟨n, by omega⟩ ⟨i, by omega⟩
      simp only at st ps
      refine ⟨_, rfl, _, rfl, _, rfl, _, _, rfl, rfl, _, _, rfl, rfl, ?_, _, rfl, _, _, rfl, rfl, _, _, rfl, rfl, ?_, ?_⟩
      · exact .inr ⟨by omega, by omega⟩
      · exact ⟨by omega, by omega⟩
      · have st' : Cn n i * ((n : Int) - (0 + (i : Int))) / (0 + (i : Int) + 1) = Cn n (i + 1) := by rw [Int.zero_add]; exact st
        exact ⟨rfl, some (.int (0 + (i : Int))), by rw [← st']; rfl⟩
    · rintro σ H' ⟨rfl, v, rfl⟩
      exact ⟨_, rfl, q⟩
def spLMany (K : PySem.W.Frag) : Sp := fun vs H Q _ => ∃ (c g : Int) (a : Addr) (ns : List Int), vs = [.int c, .ref a, .int g] ∧ (SqL K H a (ns.map V.int) ∨ SqT K H a (ns.map V.int)) ∧ c ≤ 16 ∧ 0 ≤ g ∧ (∀ z ∈ ns, 1 ≤ z) ∧ Q (.int (manyI c ns g)) H
theorem ok_law_many (T : TK K mg) : FnOk P w K mg base CX0 2 T.law_many.a T.law_many.fd ["count", "sizes", "more"] (spLMany K) := by
  refine T.law_many.F.ok sc_law_many (fun vs H Q E h => ?_) (fun cdv A outer s H vs Q E hr h => ?_)
  · obtain ⟨c, g, a, ns, rfl, _⟩ := h; rfl
  obtain ⟨c, g, a, ns, rfl, hs, hc, hg, hn, q⟩ := h
  refine ⟨_, (pss_cons (ps_set (i := 3) sc_law_many.nd rfl (Or.inl rfl) pe_int)
    (pss_cons (ps_for PassesOwn.never rfl (kpis K (pv 1)) (pg_name (i := 4) sc_law_many.nd rfl (Or.inl rfl)) (pss_cons (ps_set (i := 3) sc_law_many.nd rfl (Or.inl rfl) (pe_op op_mul (pv 3) (pe_call (ok_law_choose T) (hr.mono (by decide)) rfl T.law_choose.m T.law_choose.F.kp T.law_choose.b .nil pass0 (pa_cons (pe_callB (call_max2 rfl) (by rfl) T.z_max (by decide +kernel) (pa_cons pe_int (pa_cons (pv 0) pa_nil))) (pa_cons (pv 4) pa_nil)))))
    (pss_one (ps_set (i := 0) sc_law_many.nd rfl (Or.inl rfl) (pe_op op_sub (pe_op op_sub (pv 0) (pv 4)) (pv 2))))))
    (pss_one (ps_ret (pv 3))))), ?_⟩
  have turn : ∀ (i : Nat) (x : V) (σ : L2.St), (ns.map V.int)[i]? = some x → (∃ R l v, σ = [some (.int l), some (.ref a), some (.int g), some (.int R), v] ∧ l ≤ 16 ∧ manyI c ns g = R * manyI l (ns.drop i) g) →
      gName 4 x σ H fun σ2 H3 => tSeq (tAsg (tOp (rI CMul fun i j => .int (i * j)) (tVar 3) (tCall spChoose [] E0 (tCons (tCB (fun xs H Q => ∃ i j, xs = [V.int i, V.int j] ∧ Q (V.int (if j > i then j else i)) H) (tCons (tC (.int 0)) (tCons (tVar 0) tNil))) (tCons (tVar 4) tNil)))) (gName 3))
        (tAsg (tOp (rI0 fun i j => .int (i - j)) (tOp (rI0 fun i j => .int (i - j)) (tVar 0) (tVar 4)) (tVar 2)) (gName 0))
        { nx := fun σ' H' => H' = H ∧ ∃ R l v, σ' = [some (.int l), some (.ref a), some (.int g), some (.int R), v] ∧ l ≤ 16 ∧ manyI c ns g = R * manyI l (ns.drop (i + 1)) g, rt := Q } σ2 H3 := by
    rintro i x σ hx ⟨R, l, v, rfl, hl, hm⟩
    obtain ⟨z, hz, rfl⟩ := ints_get hx
    obtain ⟨hi, ez⟩ := List.getElem?_eq_some_iff.mp hz
    have h1 := hn z (List.mem_of_getElem? hz)
    rw [← List.getElem_cons_drop hi, ez] at hm
    rw [manyI_cons] at hm
    refine ⟨_, rfl, _, rfl, _, _, rfl, ?_⟩
    have key : ∀ mx : Int, mx = (if l > 0 then l else 0) → ∃ n : Nat, mx = (n : Int) ∧ n ≤ 16 ∧ (if (n : Int) < z then (0 : Int) else PySem.W.mcComb (n : Int) z) = (if l < z then 0 else PySem.W.mcComb l z) := by
      intro mx e
      by_cases cl : l > 0
      · rw [if_pos cl] at e
        refine ⟨l.toNat, by omega, by omega, ?_⟩
        rw [Int.toNat_of_nonneg (by omega)]
      · rw [if_neg cl] at e
        refine ⟨0, by omega, by omega, ?_⟩
        rw [if_pos (by omega), if_pos (by omega)]
    obtain ⟨nn, e1, e2, e3⟩ := key _ rfl
    rw [e1]
    refine ⟨_, rfl, nn, z, rfl, e2, h1, ?_⟩
    rw [e3]
    by_cases cz : l < z
    · rw [if_pos cz] at hm ⊢
      refine ⟨_, _, rfl, rfl, .inr ⟨by decide, by decide⟩, ?_⟩
      refine ⟨_, rfl, _, rfl, _, _, rfl, rfl, _, rfl, _, _, rfl, rfl, rfl, _, _, _, rfl, by omega, ?_⟩
      rw [hm, Int.mul_zero, Int.zero_mul]
    · rw [if_neg cz] at hm ⊢
      rw [← Int.mul_assoc] at hm
      have hcc := @comb_lt l z (by omega) (by omega) (by omega) (by omega)
      refine ⟨_, _, rfl, rfl, .inr ⟨by omega, hcc.2⟩, ?_⟩
      exact ⟨_, rfl, _, rfl, _, _, rfl, rfl, _, rfl, _, _, rfl, rfl, rfl, _, _, _, rfl, by omega, hm⟩
  have fin : ∀ σ H', (H' = H ∧ ∃ R l v, σ = [some (.int l), some (.ref a), some (.int g), some (.int R), v] ∧ l ≤ 16 ∧ manyI c ns g = R * manyI l (ns.drop (ns.map V.int).length) g) → tRet (tVar 3) { nx := fun _ H' => Q .non H', rt := Q } σ H' := by
    rintro σ H' ⟨rfl, R, l, v, rfl, _, hm⟩
    rw [List.length_map, List.drop_length] at hm
    rw [manyI_nil, Int.mul_one] at hm
    rw [hm] at q
    exact ⟨_, rfl, q⟩
  have one : manyI c ns g = 1 * manyI c (ns.drop 0) g := by rw [Int.one_mul]; rfl
  rcases hs with hs2 | hs2
  · exact .inl ⟨_, rfl, a, rfl, ⟨_, hs2⟩, for_list (xs := ns.map V.int) (fun i σ H' => H' = H ∧ ∃ R l v, σ = [some (.int l), some (.ref a), some (.int g), some (.int R), v] ∧ l ≤ 16 ∧ manyI c ns g = R * manyI l (ns.drop i) g) ⟨rfl, _, _, _, rfl, hc, one⟩
      (fun i σ H' _ ⟨e, _⟩ => e ▸ hs2) (fun i x σ H' hx ⟨e, hv⟩ => e ▸ turn i x σ hx hv) fin⟩
  · exact .inr ⟨_, rfl, a, rfl, ⟨_, hs2⟩, for_tup (xs := ns.map V.int) (fun i σ H' => H' = H ∧ ∃ R l v, σ = [some (.int l), some (.ref a), some (.int g), some (.int R), v] ∧ l ≤ 16 ∧ manyI c ns g = R * manyI l (ns.drop i) g) ⟨rfl, _, _, _, rfl, hc, one⟩
      (fun i σ H' _ ⟨e, _⟩ => e ▸ hs2) (fun i x σ H' hx ⟨e, hv⟩ => e ▸ turn i x σ hx hv) fin⟩

end
end L2.U


set_option Elab.async false
set_option linter.all false
set_option maxRecDepth 100000
set_option maxHeartbeats 4000000
namespace L2.U
open PySem PySem.Spec PyProof.Rows Evl


section
variable {P : Program} {w : World} {K : PySem.W.Frag} {mg : Str → Option Value} {base : Heap}
theorem isiT_lt {ok : Addr → Prop} {H : Hp} {n : Nat} {x : V} {d : PyData} {p : Addr} {Q : VK} (h : RdA K ok H n x d) (hp : H p = some (.tup [.ty "list", .ty "tuple"])) (q : Q (.bl (isSeq d)) H) : rIsiT K [x, .ref p] H Q := by
  rcases h with h | ⟨a, rfl, rfl, _, hd⟩
  case inr => exact ⟨_, p, [.ty "list", .ty "tuple"], _, [.type "list", .type "tuple"], false, rfl, hp, .cons (.ty _) (.cons (.ty _) .nil), .base (.dK hd), rfl, q⟩
  cases h with
  | non => exact ⟨_, p, [.ty "list", .ty "tuple"], _, [.type "list", .type "tuple"], false, rfl, hp, .cons (.ty _) (.cons (.ty _) .nil), .base .non, rfl, q⟩
  | bl b => exact ⟨_, p, [.ty "list", .ty "tuple"], _, [.type "list", .type "tuple"], false, rfl, hp, .cons (.ty _) (.cons (.ty _) .nil), .base (.bl b), rfl, q⟩
  | int i => exact ⟨_, p, [.ty "list", .ty "tuple"], _, [.type "list", .type "tuple"], false, rfl, hp, .cons (.ty _) (.cons (.ty _) .nil), .base (.int i), rfl, q⟩
  | str z _ _ => exact ⟨_, p, [.ty "list", .ty "tuple"], _, [.type "list", .type "tuple"], false, rfl, hp, .cons (.ty _) (.cons (.ty _) .nil), .base (.str z), rfl, q⟩
  | lst h1 => exact ⟨_, p, [.ty "list", .ty "tuple"], _, [.type "list", .type "tuple"], true, rfl, hp, .cons (.ty _) (.cons (.ty _) .nil), tyL (SqL.of h1), rfl, q⟩
  | tup h1 => exact ⟨_, p, [.ty "list", .ty "tuple"], _, [.type "list", .type "tuple"], true, rfl, hp, .cons (.ty _) (.cons (.ty _) .nil), tyT h1, rfl, q⟩
theorem el_lcR1n {σ : L2.St} {H : Hp} {ta : TA} {t : TT} {te : TE} {j : Nat} {vs : List Nat} {n : Int} (f : Nat → Bool) (v : Nat → V) (h : EvA ta σ H [.int n]) (hn : -40000 ≤ n ∧ n ≤ 40000) (hw : ∀ x, wipe ((wipe σ vs).set j (some x)) vs = wipe σ vs)
    (ht : ∀ (i : Nat) H1, Ex H H1 → (i : Int) < n → EvT t ((wipe σ vs).set j (some (.int (i : Int)))) H1 (f i)) (he : ∀ (i : Nat) H1, Ex H H1 → (i : Int) < n → f i = true → Ev te ((wipe σ vs).set j (some (.int (i : Int)))) H1 (v i)) :
    EvL (tLc (iRng1 ta) (gName j) t te vs) σ H (given n.toNat f v) := fun H0 e Q q => h H0 e _ fun H1 e1 => ⟨n, rfl, by omega, by omega, fun Dl hD =>
  lc_range (lo := 0) (n := n.toNat) (Cw H1 f v Dl) ⟨hD, Ex.new hD, upd_same⟩ (fun i H' hi p => by
    have e0 : (0 : Int) + (i : Int) = (i : Int) := Int.zero_add _
    show wipe ((wipe σ vs).set j (some (.int ((0 : Int) + (i : Int))))) vs = wipe σ vs ∧ t ((wipe σ vs).set j (some (.int ((0 : Int) + (i : Int))))) H' fun b H3 => if b = true then te ((wipe σ vs).set j (some (.int ((0 : Int) + (i : Int))))) H3 fun y H4 => ∃ acc, H4 Dl = some (.lst acc) ∧ acc.length < sizeLine ∧ Cw H1 f v Dl (i + 1) (upd H4 Dl (.lst (acc ++ [y]))) else Cw H1 f v Dl (i + 1) H3
    rw [e0]
    exact ⟨hw _, cw_turn p (by omega) (ht i H1 (e.trans e1) (by omega)) (fun hf => he i H1 (e.trans e1) (by omega) hf)⟩) (fun H' p => q Dl H' (fresh_back e1 p.1) (e1.trans p.2.1) p.2.2)⟩
def spLKinds (K : PySem.W.Frag) : Sp := fun vs H Q _ => ∃ x d n ok, vs = [x] ∧ RdA K ok H n x d ∧ n ≤ 20 ∧ ∀ H', Ex H H' → Q (.bl (kindsD d)) H'
theorem ok_law_are_kinds (T : TK K mg) : FnOk P w K mg base CX0 2 T.law_are_kinds.a T.law_are_kinds.fd ["value"] (spLKinds K) := by
  refine T.law_are_kinds.F.ok sc_law_are_kinds (fun vs H Q E h => ?_) (fun cdv A outer s H vs Q E hr h => ?_)
  · obtain ⟨x, d, n, ok, rfl, _⟩ := h; rfl
  obtain ⟨x, d, n, ok, rfl, h, hn, q⟩ := h
  refine ⟨_, (pss_cons (ps_if (PW.pt (pw_or (pt_not (pt_val (pe_callB (kisiT K) (by rfl) T.z_isinstance (by decide +kernel) (pa_cons (pv 0) (pa_cons (pe_tup (pa_cons (pe_bltn (v := .ty "list") rfl T.z_list (by decide +kernel) rfl) (pa_cons (pe_bltn (v := .ty "tuple") rfl T.z_tuple (by decide +kernel) rfl) pa_nil))) pa_nil))))) (pw_or1 (pt_cmpR op_gt (pe_callB (klen K) (by rfl) T.z_len (by decide +kernel) (pa_cons (pv 0) pa_nil)) pe_int (nomark _))))) (pss_one (ps_ret pe_bl)) pss_nil)
    (pss_cons (ps_if (pt_cmpR (kneD K hr.units) (pe_lc (own := [("kind", 1)]) (g := gName 1) (by rfl) sc_law_are_kinds.nd (kpis K (pv 0)) (blkOk_by (own := [("kind", 1)]) (N := ["value", "kind", "k"]) (sc := defScope s_law_are_kinds) (by decide +kernel)) (fun _ _ _ _ _ => (pg_name (i := 1) sc_law_are_kinds.nd rfl (Or.inl rfl))) (fun _ _ _ _ _ => (pts_one (pt_not (pt_val (pe_call (ok_law_is_between T) (hr.mono (by decide)) rfl T.law_is_between.m T.law_is_between.F.kp T.law_is_between.b .nil pass0 (pa_cons (pv 1) (pa_cons pe_int (pa_cons pe_int pa_nil)))))))) (fun _ _ _ _ _ => (pv 1))) (pe_lst pa_nil) (nomark _)) (pss_one (ps_ret pe_bl)) pss_nil)
    (pss_one (ps_ret (pe_cmpR (keqD K hr.units) (pe_lc (own := [("k", 2)]) (g := gName 2) (by rfl) sc_law_are_kinds.nd (pi_range1 rfl T.z_range (pa_cons (pe_op op_sub (pe_callB (klen K) (by rfl) T.z_len (by decide +kernel) (pa_cons (pv 0) pa_nil)) pe_int) pa_nil)) (blkOk_by (own := [("k", 2)]) (N := ["value", "kind", "k"]) (sc := defScope s_law_are_kinds) (by decide +kernel)) (fun _ _ _ _ _ => (pg_name (i := 2) sc_law_are_kinds.nd rfl (Or.inl rfl))) (fun _ _ _ _ _ => (pts_one (pt_cmpR op_ge (pe_ix (kix K) (pv 0) (pv 2) (fun _ _ => rfl)) (pe_ix (kix K) (pv 0) (pe_op op_add (pv 2) pe_int) (fun _ _ => rfl)) (nomark _)))) (fun _ _ _ _ _ => (pv 2))) (pe_lst pa_nil) (nomark _)))))), ?_⟩
  refine ⟨_, rfl, two_le, fun p hp => ?_⟩
  delta tNil
  dsimp only
  refine isiT_lt (h.ex (Ex.new hp)) upd_same ⟨_, rfl, ?_⟩
  have x1 := Ex.new (o := .tup [.ty "list", .ty "tuple"]) hp
  cases sq : isSeq d with
  | false => exact iteT (iteT (by have := q _ x1; unfold kindsD at this; rw [sq] at this; exact this))
  | true =>
  generalize upd H p (.tup [.ty "list", .ty "tuple"]) = H1 at x1 ⊢
  have h1 := (h.rd sq).ex x1
  obtain ⟨a, xs, rfl, hs, hl, hz, all⟩ := rd_seq h1 sq
  have hs2 : SqL K H1 a xs ∨ SqT K H1 a xs := hs.imp (fun z => z.1) (fun z => z.1)
  have rl : RdL K ok H1 (n - 1) xs (itemsD d) := ⟨hl, all⟩
  refine iteF ⟨_, rfl, _, _, rfl, (hs2.imp (fun z => ⟨_, z, rfl⟩) (fun z => ⟨_, z, rfl⟩)), _, _, rfl, rfl, _, rfl, ite2 (fun c => ?_) (fun c => ?_)⟩
  · have c' := of_decide_eq_true c
    have := q _ x1
    unfold kindsD at this
    rw [sq, decide_eq_false (show ¬ (itemsD d).length ≤ 16 by omega)] at this
    exact this
  have c' := of_decide_eq_false (Bool.eq_false_iff.mpr c)
  refine ne_empty_b (el_lcS (fun i => !betwD 1 64 ((itemsD d).getD i .none)) (fun i => xs.getD i .non) (ev_var rfl) hs2 (by omega) (fun _ => rfl) ?_ ?_) (fun H2 e2 => RdL.ex e2 (given_rd _ rl)) (by omega) H1 (Ex.refl _) _ (fun H2 e2 => ⟨_, rfl, ?_⟩)
  · intro i x H2 e2 hx H3 e3 Q3 k3
    have hi := (List.getElem?_eq_some_iff.mp hx).1
    have hd : (itemsD d)[i]? = some ((itemsD d).getD i .none) := getD_some _ (by omega)
    exact ⟨_, rfl, _, _, _, _, _, _, rfl, .inl ((all i x _ hx hd).ex (e2.trans e3)), ⟨_, rfl, k3 H3 (Ex.refl _)⟩⟩
  · intro i x H2 e2 hx _ H3 e3 Q3 k3
    have e : xs.getD i .non = x := by rw [List.getD_eq_getElem?_getD, hx]; rfl
    rw [e] at k3
    exact ⟨_, rfl, k3 H3 (Ex.refl _)⟩
  · rw [given_emp (p := betwD 1 64) hl (fun i e he => by rw [List.getD_eq_getElem?_getD, he]; rfl)]
    cases al : (itemsD d).all (betwD 1 64) with
    | false =>
      have := q _ (x1.trans e2)
      unfold kindsD at this
      rw [al, Bool.and_false, Bool.false_and] at this
      exact iteT this
    | true =>
      refine iteF ?_
      have key : ∀ i, i < xs.length → ∃ z, xs[i]? = some (.int z) ∧ (itemsD d)[i]? = some (.int z) := fun i hi => by
        have hd : (itemsD d)[i]? = some ((itemsD d)[i]'(by omega)) := List.getElem?_eq_getElem _
        have r := all i _ _ (List.getElem?_eq_getElem hi) hd
        obtain ⟨z, e1, e2, _⟩ := betw_int r (List.all_eq_true.mp al _ (List.getElem_mem _))
        exact ⟨z, by rw [List.getElem?_eq_getElem hi, e1], by rw [hd, e2]⟩
      have s3 := hs2.imp (ex_l e2) (ex_t e2)
      have s3' : SqL K H2 a xs ∨ SqT K H2 a xs := s3
      delta tNext
      dsimp only
      delta tRet
      dsimp only
      refine eq_empty_b (n := 1) (ok := fun _ => True) (ds := (((List.range (((xs.length : Int) - 1).toNat)).filter (fun i => !ltD (itemsD d) i)).map (fun i : Nat => (i : Int))).map PyData.int) (el_lcR1n (σ := start ["value", "kind", "k"] [.ref a]) (j := 2) (vs := [2]) (n := (xs.length : Int) - 1) (fun i => !ltD (itemsD d) i) (fun i => .int (i : Int)) ?_ ⟨by omega, by omega⟩ (fun _ => rfl) ?_ ?_) (fun H3 _ => by rw [given_ints]; exact rdl_ints (K := K) _) (by omega) H2 (Ex.refl _) _ (fun H3 e3 => ?_)
      · exact fun H3 e3 Q' k => ⟨_, rfl, _, _, rfl, (s3'.imp (fun z => ⟨_, ex_l e3 z, rfl⟩) (fun z => ⟨_, ex_t e3 z, rfl⟩)), _, _, rfl, rfl, k H3 (Ex.refl _)⟩
      · intro i H3 e3 hi H4 e4 Q4 k4
        obtain ⟨z1, x1', d1⟩ := key i (by omega)
        obtain ⟨z2, x2', d2⟩ := key (i + 1) (by omega)
        have s4 := s3'.imp (ex_l (e3.trans e4)) (ex_t (e3.trans e4))
        refine ⟨_, rfl, _, rfl, rix s4 (at_of rfl x1') ⟨_, rfl, _, rfl, _, _, rfl, rfl, rix s4 (at_of (show (i : Int) + 1 = ((i + 1 : Nat) : Int) by omega) x2') ⟨z1, z2, rfl, rfl, _, rfl, ?_⟩⟩⟩
        have : (!ltD (itemsD d) i) = decide (z2 ≤ z1) := by
          unfold ltD; rw [d1, d2]
          show (!decide (z1 < z2)) = _
          rw [Bool.eq_iff_iff]; simp
        rw [← this]
        exact k4 H4 (Ex.refl _)
      · intro i H3 e3 hi _ H4 e4 Q4 k4
        exact ⟨_, rfl, k4 H4 (Ex.refl _)⟩
      · rw [given_idx (g := ltD (itemsD d)) (fun i _ => rfl), show ((xs.length : Int) - 1).toNat = (itemsD d).length - 1 by omega]
        have := q _ ((x1.trans e2).trans e3)
        unfold kindsD at this
        rw [sq, al, decide_eq_true (show (itemsD d).length ≤ 16 by omega)] at this
        exact this
def spLSizes (K : PySem.W.Frag) : Sp := fun vs H Q _ => ∃ x d n ok, vs = [x] ∧ RdA K ok H n x d ∧ n ≤ 20 ∧ ∀ H', Ex H H' → Q (.bl (sizesD d)) H'
theorem ok_law_are_sizes (T : TK K mg) : FnOk P w K mg base CX0 2 T.law_are_sizes.a T.law_are_sizes.fd ["value"] (spLSizes K) := by
  refine T.law_are_sizes.F.ok sc_law_are_sizes (fun vs H Q E h => ?_) (fun cdv A outer s H vs Q E hr h => ?_)
  · obtain ⟨x, d, n, ok, rfl, _⟩ := h; rfl
  obtain ⟨x, d, n, ok, rfl, h, hn, q⟩ := h
  refine ⟨_, (pss_cons (ps_if (PW.pt (pw_or (pt_not (pt_val (pe_callB (kisiT K) (by rfl) T.z_isinstance (by decide +kernel) (pa_cons (pv 0) (pa_cons (pe_tup (pa_cons (pe_bltn (v := .ty "list") rfl T.z_list (by decide +kernel) rfl) (pa_cons (pe_bltn (v := .ty "tuple") rfl T.z_tuple (by decide +kernel) rfl) pa_nil))) pa_nil))))) (pw_or1 (pt_cmpR op_gt (pe_callB (klen K) (by rfl) T.z_len (by decide +kernel) (pa_cons (pv 0) pa_nil)) pe_int (nomark _))))) (pss_one (ps_ret pe_bl)) pss_nil)
    (pss_one (ps_ret (pe_cmpR (keqD K hr.units) (pe_lc (own := [("size", 1)]) (g := gName 1) (by rfl) sc_law_are_sizes.nd (kpis K (pv 0)) (blkOk_by (own := [("size", 1)]) (N := ["value", "size"]) (sc := defScope s_law_are_sizes) (by decide +kernel)) (fun _ _ _ _ _ => (pg_name (i := 1) sc_law_are_sizes.nd rfl (Or.inl rfl))) (fun _ _ _ _ _ => (pts_one (PW.pt (pw_or (pt_not (pt_val (pe_callB (kisi K) (by rfl) T.z_isinstance (by decide +kernel) (pa_cons (pv 1) (pa_cons (pe_bltn (v := .ty "int") rfl T.z_int (by decide +kernel) rfl) pa_nil))))) (pw_or (pt_val (pe_callB (kisi K) (by rfl) T.z_isinstance (by decide +kernel) (pa_cons (pv 1) (pa_cons (pe_bltn (v := .ty "bool") rfl T.z_bool (by decide +kernel) rfl) pa_nil)))) (pw_or1 (pt_cmpR op_lt (pv 1) pe_int (nomark _)))))))) (fun _ _ _ _ _ => (pv 1))) (pe_lst pa_nil) (nomark _))))), ?_⟩
  refine ⟨_, rfl, two_le, fun p hp => ?_⟩
  delta tNil
  dsimp only
  refine isiT_lt (h.ex (Ex.new hp)) upd_same ⟨_, rfl, ?_⟩
  have x1 := Ex.new (o := .tup [.ty "list", .ty "tuple"]) hp
  cases sq : isSeq d with
  | false => exact iteT (iteT (by have := q _ x1; unfold sizesD at this; rw [sq] at this; exact this))
  | true =>
  generalize upd H p (.tup [.ty "list", .ty "tuple"]) = H1 at x1 ⊢
  have h1 := (h.rd sq).ex x1
  obtain ⟨a, xs, rfl, hs, hl, hz, all⟩ := rd_seq h1 sq
  have hs2 : SqL K H1 a xs ∨ SqT K H1 a xs := hs.imp (fun z => z.1) (fun z => z.1)
  have rl : RdL K ok H1 (n - 1) xs (itemsD d) := ⟨hl, all⟩
  refine iteF ⟨_, rfl, _, _, rfl, (hs2.imp (fun z => ⟨_, z, rfl⟩) (fun z => ⟨_, z, rfl⟩)), _, _, rfl, rfl, _, rfl, ite2 (fun c => ?_) (fun c => ?_)⟩
  · have c' := of_decide_eq_true c
    have := q _ x1
    unfold sizesD at this
    rw [sq, decide_eq_false (show ¬ (itemsD d).length ≤ 16 by omega)] at this
    exact this
  have c' := of_decide_eq_false (Bool.eq_false_iff.mpr c)
  refine eq_empty_b (el_lcS (fun i => !fromD 1 ((itemsD d).getD i .none)) (fun i => xs.getD i .non) (ev_var rfl) hs2 (by omega) (fun _ => rfl) ?_ ?_) (fun H2 e2 => RdL.ex e2 (given_rd _ rl)) (by omega) H1 (Ex.refl _) _ (fun H2 e2 => ?_)
  · intro i x H2 e2 hx H3 e3 Q3 k3
    have hi := (List.getElem?_eq_some_iff.mp hx).1
    have hd : (itemsD d)[i]? = some ((itemsD d).getD i .none) := getD_some _ (by omega)
    have r := (all i x _ hx hd).ex (e2.trans e3)
    generalize (itemsD d).getD i .none = e at r k3
    generalize n - 1 = nn at r
    cases r with
    | non => exact ⟨_, rfl, _, _, _, _, false, rfl, .ty "int", .base .non, kit_ty (by decide +kernel), ⟨_, rfl, iteT (k3 H3 (Ex.refl _))⟩⟩
    | bl b => exact ⟨_, rfl, _, _, _, _, true, rfl, .ty "int", .base (.bl b), kit_ty (by decide +kernel), ⟨_, rfl, iteF ⟨_, rfl, _, _, _, _, true, rfl, .ty "bool", .base (.bl b), kit_ty (by decide +kernel), ⟨_, rfl, iteT (k3 H3 (Ex.refl _))⟩⟩⟩⟩
    | str z _ _ => exact ⟨_, rfl, _, _, _, _, false, rfl, .ty "int", .base (.str z), kit_ty (by decide +kernel), ⟨_, rfl, iteT (k3 H3 (Ex.refl _))⟩⟩
    | lst h1 _ _ _ _ => exact ⟨_, rfl, _, _, _, _, false, rfl, .ty "int", tyL (SqL.of h1), kit_ty (by decide +kernel), ⟨_, rfl, iteT (k3 H3 (Ex.refl _))⟩⟩
    | tup h1 _ _ _ _ => exact ⟨_, rfl, _, _, _, _, false, rfl, .ty "int", tyT h1, kit_ty (by decide +kernel), ⟨_, rfl, iteT (k3 H3 (Ex.refl _))⟩⟩
    | int z =>
      refine ⟨_, rfl, _, _, _, _, true, rfl, .ty "int", .base (.int z), kit_ty (by decide +kernel), ⟨_, rfl, iteF ⟨_, rfl, _, _, _, _, false, rfl, .ty "bool", .base (.int z), kit_ty (by decide +kernel), ⟨_, rfl, iteF ⟨_, rfl, _, _, rfl, rfl, _, rfl, ?_⟩⟩⟩⟩⟩
      have : (!fromD 1 (.int z)) = decide (z < 1) := by
        show (!decide (1 ≤ z)) = _
        rw [Bool.eq_iff_iff]; simp
      rw [← this]
      exact k3 H3 (Ex.refl _)
  · intro i x H2 e2 hx _ H3 e3 Q3 k3
    have e : xs.getD i .non = x := by rw [List.getD_eq_getElem?_getD, hx]; rfl
    rw [e] at k3
    exact ⟨_, rfl, k3 H3 (Ex.refl _)⟩
  · rw [given_emp (p := fromD 1) hl (fun i e he => by rw [List.getD_eq_getElem?_getD, he]; rfl)]
    have := q _ (x1.trans e2)
    unfold sizesD at this
    rw [sq, decide_eq_true (show (itemsD d).length ≤ 16 by omega)] at this
    exact this
theorem RdL.ex' {ok : Addr → Prop} {H H' : Hp} {n : Nat} {xs : List V} {ds : List PyData} (h : RdL K ok H n xs ds) (e : Ex H H') : RdL K ok H' n xs ds := RdL.ex e h
theorem range_filter_get {α : Type} (p : α → Bool) (d : α) : ∀ ls : List α, ((List.range ls.length).filter (fun i => p (ls.getD i d))).map (fun i => ls.getD i d) = ls.filter p
  | [] => rfl
  | a :: r => by
    have ih := range_filter_get p d r
    rw [List.length_cons, List.range_succ_eq_map, List.filter_cons, List.filter_map]
    have e1 : ((fun i => p ((a :: r).getD i d)) ∘ Nat.succ) = fun i => p (r.getD i d) := by funext i; simp
    have e2 : ((fun i => (a :: r).getD i d) ∘ Nat.succ) = fun i => r.getD i d := by funext i; simp
    rw [e1]
    by_cases c : p a = true
    · rw [if_pos (by simpa using c), List.map_cons, List.map_map, e2, ih, List.filter_cons, if_pos c]
      simp
    · rw [if_neg (by simpa using c), List.map_map, e2, ih, List.filter_cons, if_neg c]
theorem given_filter {ls : List Int} {p : Int → Bool} {f : Nat → Bool} {n : Nat} (hn : n = ls.length) (hf : ∀ i z, ls[i]? = some z → f i = p z) : given n f (fun i => (ls.map V.int).getD i .non) = (ls.filter p).map V.int := by
  subst hn
  rw [← range_filter_get p 0 ls, List.map_map]
  unfold given
  have e : (List.range ls.length).filter f = (List.range ls.length).filter (fun i => p (ls.getD i 0)) := by
    apply List.filter_congr
    intro i hi
    exact hf i _ (getD_some _ (List.mem_range.mp hi))
  rw [e]
  apply List.map_congr_left
  intro i hi
  have := (List.mem_filter.mp hi).1
  rw [List.mem_range] at this
  show (ls.map V.int).getD i .non = V.int (ls.getD i 0)
  rw [List.getD_eq_getElem?_getD, List.getD_eq_getElem?_getD, List.getElem?_map, List.getElem?_eq_getElem this]
  rfl
end
end L2.U


set_option Elab.async false
set_option linter.all false
set_option maxRecDepth 100000
set_option maxHeartbeats 4000000
namespace L2.U
open PySem PySem.Spec PyProof.Rows Evl


section
variable {P : Program} {w : World} {K : PySem.W.Frag} {mg : Str → Option Value} {base : Heap}
theorem inD_betw {ls : List Int} (h : ∀ k ∈ ls, 1 ≤ k ∧ k ≤ 64) {e : PyData} (c : inD ls e = true) : betwD 1 64 e = true := by
  cases e <;> first | exact decide_eq_true (h _ (of_decide_eq_true c)) | cases c
def spLRounds (K : PySem.W.Frag) : Sp := fun vs H Q _ => ∃ (x : V) (d : PyData) (n : Nat) (ok : Addr → Prop) (b : Addr) (ks : List Int) (g : Int), vs = [x, .ref b, .int g] ∧ RdA K ok H n x d ∧ n ≤ 20 ∧ (SqL K H b (ks.map V.int) ∨ SqT K H b (ks.map V.int)) ∧ ks.length ≤ 64 ∧ (∀ k ∈ ks, 1 ≤ k ∧ k ≤ 64) ∧ (g = 0 ∨ g = 1) ∧ ∀ H', Ex H H' → Q (.bl (roundsD ks g d)) H'
theorem ok_law_are_rounds (T : TK K mg) : FnOk P w K mg base CX0 2 T.law_are_rounds.a T.law_are_rounds.fd ["value", "kinds", "more"] (spLRounds K) := by
  refine T.law_are_rounds.F.ok sc_law_are_rounds (fun vs H Q E h => ?_) (fun cdv A outer s H vs Q E hr h => ?_)
  · obtain ⟨x, d, n, ok, b, ks, g, rfl, _⟩ := h; rfl
  obtain ⟨x, d, n, ok, b, ks, g, rfl, h, hn, hb, hk64, hk, hg, q⟩ := h
  refine ⟨_, (pss_cons (ps_if (pt_not (pt_val (pe_callB (kisi K) (by rfl) T.z_isinstance (by decide +kernel) (pa_cons (pv 0) (pa_cons (pe_bltn (v := .ty "tuple") rfl T.z_tuple (by decide +kernel) rfl) pa_nil))))) (pss_one (ps_ret pe_bl)) pss_nil)
    (pss_cons (ps_set (i := 3) sc_law_are_rounds.nd rfl (Or.inr rfl) (pe_callTy (klist K) (by rfl) T.z_list (by decide +kernel) (pa_cons (pv 1) pa_nil)))
    (pss_cons (ps_for PassesOwn.never rfl (pi_range1 rfl T.z_range (pa_cons (pe_callB (klen K) (by rfl) T.z_len (by decide +kernel) (pa_cons (pv 0) pa_nil)) pa_nil)) (pg_name (i := 4) sc_law_are_rounds.nd rfl (Or.inl rfl)) (pss_cons (ps_set (i := 5) sc_law_are_rounds.nd rfl (Or.inr rfl) (pe_ix (kixt K) (pv 0) (pv 4) (fun _ _ => rfl)))
    (pss_cut (ps_if (PW.pt (pw_and (pt_cmpR op_gt (pv 4) pe_int (nomark _)) (pw_and1 (pt_cmpR op_eq (pv 2) pe_int (nomark _))))) (pss_one (ps_set (i := 3) sc_law_are_rounds.nd rfl (Or.inr rfl) (pe_slice (kslL K) (pv 3) (po_some pe_int) po_none))) pss_nil)
    (pss_cons (ps_if (PW.pt (pw_or (pt_not (pt_val (pe_callB (kisi K) (by rfl) T.z_isinstance (by decide +kernel) (pa_cons (pv 5) (pa_cons (pe_bltn (v := .ty "tuple") rfl T.z_tuple (by decide +kernel) rfl) pa_nil))))) (pw_or1 (pt_cmpR (keqD K hr.units) (pv 5) (pe_tup pa_nil) (nomark _))))) (pss_one (ps_ret pe_bl)) pss_nil)
    (pss_cons (ps_if (pt_cmpR (kneD K hr.units) (pe_lc (own := [("kind", 6)]) (g := gName 6) (by rfl) sc_law_are_rounds.nd (kpit K (pv 5)) (blkOk_by (own := [("kind", 6)]) (N := ["value", "kinds", "more", "left", "at", "one", "kind", "k"]) (sc := defScope s_law_are_rounds) (by decide +kernel)) (fun _ _ _ _ _ => (pg_name (i := 6) sc_law_are_rounds.nd rfl (Or.inl rfl))) (fun _ _ _ _ _ => (pts_one (PW.pt (pw_or (pt_not (pt_val (pe_call (ok_law_is_between T) (hr.mono (by decide)) rfl T.law_is_between.m T.law_is_between.F.kp T.law_is_between.b .nil pass0 (pa_cons (pv 6) (pa_cons pe_int (pa_cons pe_int pa_nil)))))) (pw_or1 (pt_cmpR (knotin K) (pv 6) (pv 3) (by rfl))))))) (fun _ _ _ _ _ => (pv 6))) (pe_lst pa_nil) (nomark _)) (pss_one (ps_ret pe_bl)) pss_nil)
    (pss_cons (ps_if (pt_cmpR (kneD K hr.units) (pe_lc (own := [("k", 7)]) (g := gName 7) (by rfl) sc_law_are_rounds.nd (pi_range1 rfl T.z_range (pa_cons (pe_op op_sub (pe_callB (klen K) (by rfl) T.z_len (by decide +kernel) (pa_cons (pv 5) pa_nil)) pe_int) pa_nil)) (blkOk_by (own := [("k", 7)]) (N := ["value", "kinds", "more", "left", "at", "one", "kind", "k"]) (sc := defScope s_law_are_rounds) (by decide +kernel)) (fun _ _ _ _ _ => (pg_name (i := 7) sc_law_are_rounds.nd rfl (Or.inl rfl))) (fun _ _ _ _ _ => (pts_one (pt_cmpR op_ge (pe_ix (kixt K) (pv 5) (pv 7) (fun _ _ => rfl)) (pe_ix (kixt K) (pv 5) (pe_op op_add (pv 7) pe_int) (fun _ _ => rfl)) (nomark _)))) (fun _ _ _ _ _ => (pv 7))) (pe_lst pa_nil) (nomark _)) (pss_one (ps_ret pe_bl)) pss_nil)
    (pss_one (ps_set (i := 3) sc_law_are_rounds.nd rfl (Or.inr rfl) (pe_lc (own := [("kind", 6)]) (g := gName 6) (by rfl) sc_law_are_rounds.nd (kpil K (pv 3)) (blkOk_by (own := [("kind", 6)]) (N := ["value", "kinds", "more", "left", "at", "one", "kind", "k"]) (sc := defScope s_law_are_rounds) (by decide +kernel)) (fun _ _ _ _ _ => (pg_name (i := 6) sc_law_are_rounds.nd rfl (Or.inl rfl))) (fun _ _ _ _ _ => (pts_one (pt_cmpR (knotin K) (pv 6) (pv 5) (by rfl)))) (fun _ _ _ _ _ => (pv 6)))))))))))
    (pss_one (ps_ret pe_bl))))), ?_⟩
  have fin : ∀ H' c, Ex H H' → roundsD ks g d = c → Q (.bl c) H' := fun H' c e hc => hc ▸ q H' e
  rcases h with h | ⟨a, rfl, rfl, _, hd⟩
  case inr => exact ⟨_, rfl, _, _, _, _, false, rfl, .ty "tuple", .base (.dK hd), kit_ty (by decide +kernel), _, rfl, iteT (fin _ _ (Ex.refl _) rfl)⟩
  cases h with
  | non => exact ⟨_, rfl, _, _, _, _, false, rfl, .ty "tuple", .base .non, kit_ty (by decide +kernel), _, rfl, iteT (fin _ _ (Ex.refl _) rfl)⟩
  | bl c => exact ⟨_, rfl, _, _, _, _, false, rfl, .ty "tuple", .base (.bl c), kit_ty (by decide +kernel), _, rfl, iteT (fin _ _ (Ex.refl _) rfl)⟩
  | int i => exact ⟨_, rfl, _, _, _, _, false, rfl, .ty "tuple", .base (.int i), kit_ty (by decide +kernel), _, rfl, iteT (fin _ _ (Ex.refl _) rfl)⟩
  | str z _ _ => exact ⟨_, rfl, _, _, _, _, false, rfl, .ty "tuple", .base (.str z), kit_ty (by decide +kernel), _, rfl, iteT (fin _ _ (Ex.refl _) rfl)⟩
  | lst h1 => exact ⟨_, rfl, _, _, _, _, false, rfl, .ty "tuple", .base (.lst h1), kit_ty (by decide +kernel), _, rfl, iteT (fin _ _ (Ex.refl _) rfl)⟩
  | @tup n a xs ds h1 ha hl hz all =>
    refine ⟨_, rfl, _, _, _, _, true, rfl, .ty "tuple", tyT h1, kit_ty (by decide +kernel), _, rfl, iteF ?_⟩
    refine ⟨_, rfl, b, _, rfl, hb, fun l hl0 => ?_⟩
    have n1 : Ex H (upd H l (.lst (ks.map V.int))) := Ex.new hl0
    refine ⟨_, rfl, _, _, rfl, .inr ⟨_, ex_t n1 h1, rfl⟩, _, rfl, by omega, by omega, for_range (lo := 0) (n := ((xs.length : Nat) : Int).toNat) (fun i σ H' => Ex H H' ∧ ∃ l ls v4 v5, σ = [some (.ref a), some (.ref b), some (.int g), some (.ref l), v4, v5, none, none] ∧ H' l = some (.lst (ls.map V.int)) ∧ ls.length ≤ 64 ∧ (∀ k ∈ ls, 1 ≤ k ∧ k ≤ 64) ∧ roundsL ks ds g = roundsL (if i = 0 then ls else ls.drop g.toNat) (ds.drop i) g)
      ⟨n1, l, ks, _, _, rfl, upd_same, hk64, hk, rfl⟩ ?_ ?_⟩
    · rintro i σ H1 hi ⟨e, l, ls, v4, v5, rfl, hl2, h64, hls, hm⟩
      have hi' : i < xs.length := by omega
      have hxi : xs[i]? = some xs[i] := List.getElem?_eq_getElem hi'
      have hdi : ds[i]? = some (ds[i]'(by omega)) := List.getElem?_eq_getElem _
      have r0 := all i _ _ hxi hdi
      rw [← List.getElem_cons_drop (show i < ds.length by omega), roundsL_cons] at hm
      generalize ds[i]'(by omega) = dd at r0 hm
      generalize xs[i] = y at hxi r0
      refine ⟨_, rfl, _, rfl, _, _, _, _, rfl, rfl, ex_t e h1, at_of (show (0 : Int) + (i : Int) = ((i : Nat) : Int) from Int.zero_add _) hxi, ?_⟩
      refine ⟨fun σ' H' => Ex H H' ∧ ∃ l ls, σ' = [some (.ref a), some (.ref b), some (.int g), some (.ref l), some (.int (0 + (i : Int))), some y, none, none] ∧ H' l = some (.lst (ls.map V.int)) ∧ ls.length ≤ 64 ∧ (∀ k ∈ ls, 1 ≤ k ∧ k ≤ 64) ∧ roundsL ks ds g = (chosenD ls dd && roundsL (behindI ls (intsOf dd) g) (ds.drop (i + 1)) g), ?_, ?_⟩
      · refine ⟨_, rfl, _, _, rfl, rfl, _, rfl, ite2 (fun c => ?_) (fun c => ?_)⟩
        · have c' : (0 : Int) < 0 + (i : Int) := of_decide_eq_true c
          rw [if_neg (by omega)] at hm
          rcases hg with rfl | rfl
          · refine ⟨_, rfl, rfl, _, rfl, iteF ⟨e, l, ls, rfl, hl2, h64, hls, ?_⟩⟩
            rw [hm]; rfl
          · refine ⟨_, rfl, rfl, _, rfl, iteT ⟨_, rfl, 1, rfl, l, _, rfl, SqL.of hl2, fun p hp => ⟨e.trans (Ex.new hp), p, ls.drop 1, rfl, ?_, by rw [List.length_drop]; omega, fun k hk => hls k (List.mem_of_mem_drop hk), hm⟩⟩⟩
            rw [upd_same, show (some (1 : Int)) = some (((1 : Nat) : Int)) from rfl, cut_from, List.map_drop]
        · have c' : ¬ (0 : Int) < 0 + (i : Int) := of_decide_eq_false (Bool.eq_false_iff.mpr c)
          rw [if_pos (by omega)] at hm
          exact ⟨e, l, ls, rfl, hl2, h64, hls, hm⟩
      clear hm hls h64 hl2 e
      rintro σ' H2 ⟨e, l, ls, rfl, hl2, h64, hls, hm⟩
      have r1 := r0.ex e
      have bad : ∀ H', Ex H2 H' → chosenD ls dd = false → Q (.bl false) H' := fun H' e' c => fin _ _ (e.trans e') (by show roundsL ks ds g = false; rw [hm, c]; rfl)
      cases r1 with
      | non => exact ⟨_, rfl, _, _, _, _, false, rfl, .ty "tuple", .base .non, kit_ty (by decide +kernel), _, rfl, iteT (iteT (bad _ (Ex.refl _) rfl))⟩
      | bl c => exact ⟨_, rfl, _, _, _, _, false, rfl, .ty "tuple", .base (.bl c), kit_ty (by decide +kernel), _, rfl, iteT (iteT (bad _ (Ex.refl _) rfl))⟩
      | int i => exact ⟨_, rfl, _, _, _, _, false, rfl, .ty "tuple", .base (.int i), kit_ty (by decide +kernel), _, rfl, iteT (iteT (bad _ (Ex.refl _) rfl))⟩
      | str z _ _ => exact ⟨_, rfl, _, _, _, _, false, rfl, .ty "tuple", .base (.str z), kit_ty (by decide +kernel), _, rfl, iteT (iteT (bad _ (Ex.refl _) rfl))⟩
      | lst h1 => exact ⟨_, rfl, _, _, _, _, false, rfl, .ty "tuple", .base (.lst h1), kit_ty (by decide +kernel), _, rfl, iteT (iteT (bad _ (Ex.refl _) rfl))⟩
      | @tup m c ys es g1 ga gl gz gall =>
        have r1 : Rd K ok H2 (m + 1) (.ref c) (.tuple es) := .tup g1 ga gl gz gall
        refine ⟨_, rfl, _, _, _, _, true, rfl, .ty "tuple", tyT g1, kit_ty (by decide +kernel), _, rfl, iteF ?_⟩
        refine ⟨_, rfl, (by show 0 ≤ sizeLine; decide), fun e0 he0 => ?_⟩
        have n2 : Ex H2 (upd H2 e0 (.tup [])) := Ex.new he0
        have un : upd H2 e0 (.tup []) e0 = some (.tup []) := upd_same
        generalize upd H2 e0 (.tup []) = H3 at *
        have hr1 := r1.ex n2
        refine ⟨.tuple es, .tuple [], hr1.dp, .tup (SqT.of un) .nil, hr1.shaped (by omega), shaped0, ?_⟩
        match es, gl, gall, hm, bad, hr1, r1 with
        | [], _, _, _, bad, _, _ => exact ⟨_, rfl, iteT (bad _ n2 rfl)⟩
        | d0 :: rr, gl, gall, hm, bad, hr1, r1 =>
        refine ⟨_, rfl, iteF ?_⟩
        have g3 := ex_t n2 g1
        have l3 := n2 _ _ hl2
        have rl : RdL K ok H3 m ys (d0 :: rr) := ⟨gl, fun i x d hx hd => (gall i x d hx hd).ex n2⟩
        delta tTest
        dsimp only
        refine ne_empty_b (el_lcT (σ := [some (.ref a), some (.ref b), some (.int g), some (.ref l), some (.int (0 + (i : Int))), some (.ref c), none, none]) (j := 6) (vs := [6]) (fun i => !inD ls ((d0 :: rr).getD i .none)) (fun i => ys.getD i .non) (ev_var rfl) g3 (by omega) (fun _ => rfl) ?_ ?_) (fun H4 e4 => RdL.ex e4 (given_rd _ rl)) (by omega) H3 (Ex.refl _) _ (fun H4 e4 => ⟨_, rfl, ?_⟩)
        · intro i x H4 e4 hx H5 e5 Q5 k5
          have hi := (List.getElem?_eq_some_iff.mp hx).1
          have hd : (d0 :: rr)[i]? = some ((d0 :: rr).getD i .none) := getD_some _ (by omega)
          have r := (gall i x _ hx hd).ex ((n2.trans e4).trans e5)
          generalize (d0 :: rr).getD i .none = dd at r k5
          refine ⟨_, rfl, _, _, _, _, _, _, rfl, .inl r, ⟨_, rfl, ?_⟩⟩
          cases bt : betwD 1 64 dd with
          | false =>
            have : inD ls dd = false := by
              cases c : inD ls dd with
              | false => rfl
              | true => rw [inD_betw hls c] at bt; cases bt
            rw [this] at k5
            exact iteT (k5 H5 (Ex.refl _))
          | true =>
            obtain ⟨z, rfl, rfl, _, _⟩ := betw_int r bt
            refine iteF ⟨_, rfl, _, rfl, l, _, rfl, .inl (SqL.of (e5 _ _ (e4 _ _ l3))), rfl, flat_ints, ?_⟩
            rw [if_pos rfl, inV_ints]
            exact ⟨_, rfl, k5 H5 (Ex.refl _)⟩
        · intro i x H4 e4 hx _ H5 e5 Q5 k5
          have e : ys.getD i .non = x := by rw [List.getD_eq_getElem?_getD, hx]; rfl
          rw [e] at k5
          exact ⟨_, rfl, k5 H5 (Ex.refl _)⟩
        rw [given_emp (p := inD ls) gl (fun i e he => by rw [List.getD_eq_getElem?_getD, he]; rfl)]
        cases al : (d0 :: rr).all (inD ls) with
        | false => exact iteT (bad _ (n2.trans e4) (by show (!(d0 :: rr).isEmpty && (d0 :: rr).all (inD ls) && ascD (d0 :: rr)) = false; rw [al]; rfl))
        | true =>
        refine iteF ?_
        have key : ∀ i, i < ys.length → ∃ z, ys[i]? = some (.int z) ∧ (d0 :: rr)[i]? = some (.int z) := fun i hi => by
          have hd : (d0 :: rr)[i]? = some ((d0 :: rr)[i]'(by omega)) := List.getElem?_eq_getElem _
          have r := gall i _ _ (List.getElem?_eq_getElem hi) hd
          obtain ⟨z, e1, e2, _⟩ := betw_int r (inD_betw hls (List.all_eq_true.mp al _ (List.getElem_mem (show i < (d0 :: rr).length by omega))))
          exact ⟨z, by rw [List.getElem?_eq_getElem hi, e1], by rw [hd, e2]⟩
        have g4 := ex_t e4 g3
        have l4 := e4 _ _ l3
        have e24 := n2.trans e4
        delta tNext
        dsimp only
        delta tSeq tIfS
        dsimp only
        refine ne_empty_b (n := 1) (ok := fun _ => True) (ds := (((List.range (((ys.length : Int) - 1).toNat)).filter (fun i => !ltD (d0 :: rr) i)).map (fun i : Nat => (i : Int))).map PyData.int) (el_lcR1n (σ := [some (.ref a), some (.ref b), some (.int g), some (.ref l), some (.int (0 + (i : Int))), some (.ref c), none, none]) (j := 7) (vs := [7]) (n := (ys.length : Int) - 1) (fun i => !ltD (d0 :: rr) i) (fun i => .int (i : Int)) ?_ ⟨by omega, by omega⟩ (fun _ => rfl) ?_ ?_) (fun H3 _ => by rw [given_ints]; exact rdl_ints (K := K) _) (by omega) H4 (Ex.refl _) _ (fun H5 e5 => ⟨_, rfl, ?_⟩)
        · exact fun H3 e3 Q' k => ⟨_, rfl, _, _, rfl, .inr ⟨_, ex_t e3 g4, rfl⟩, _, _, rfl, rfl, k H3 (Ex.refl _)⟩
        · intro i H5 e5 hi H6 e6 Q6 k6
          obtain ⟨z1, x1', d1⟩ := key i (by omega)
          obtain ⟨z2, x2', d2⟩ := key (i + 1) (by omega)
          have s6 := ex_t (e5.trans e6) g4
          refine ⟨_, rfl, _, rfl, _, _, _, _, rfl, rfl, s6, at_of rfl x1', _, rfl, _, rfl, _, _, rfl, rfl, _, _, _, _, rfl, rfl, s6, at_of (show (i : Int) + 1 = ((i + 1 : Nat) : Int) by omega) x2', z1, z2, rfl, rfl, _, rfl, ?_⟩
          have : (!ltD (d0 :: rr) i) = decide (z2 ≤ z1) := by
            unfold ltD; rw [d1, d2]
            show (!decide (z1 < z2)) = _
            rw [Bool.eq_iff_iff]; simp
          rw [← this]
          exact k6 H6 (Ex.refl _)
        · intro i H5 e5 hi _ H6 e6 Q6 k6
          exact ⟨_, rfl, k6 H6 (Ex.refl _)⟩
        rw [given_idx (g := ltD (d0 :: rr)) (fun i _ => rfl), show ((ys.length : Int) - 1).toNat = (d0 :: rr).length - 1 by omega]
        show if (!ascD (d0 :: rr)) = true then _ else _
        cases ac : ascD (d0 :: rr) with
        | false => exact iteT (bad _ (e24.trans e5) (by show (!(d0 :: rr).isEmpty && (d0 :: rr).all (inD ls) && ascD (d0 :: rr)) = false; rw [ac, Bool.and_false]))
        | true =>
        have ch : chosenD ls (.tuple (d0 :: rr)) = true := by show (!(d0 :: rr).isEmpty && (d0 :: rr).all (inD ls) && ascD (d0 :: rr)) = true; rw [al, ac]; rfl
        rw [ch, Bool.true_and] at hm
        obtain ⟨c', ec, hci⟩ := chosen_ints (r1.ex (e24.trans e5)) ch
        cases ec
        generalize intsOf (.tuple (d0 :: rr)) = cs at hci hm
        have l5 := e5 _ _ l4
        refine iteF ?_
        have ev : EvL (tLc (iList K (tVar 3)) (gName 6) (tTest (tOp (rIn K true) (tVar 6) (tVar 5))) (tVar 6) [6]) [some (.ref a), some (.ref b), some (.int g), some (.ref l), some (.int (0 + (i : Int))), some (.ref c), none, none] H5 ((ls.filter fun z => !decide (z ∈ cs)).map V.int) := by
          have := el_lcL (K := K) (σ := [some (.ref a), some (.ref b), some (.int g), some (.ref l), some (.int (0 + (i : Int))), some (.ref c), none, none]) (H := H5) (tl := tVar 3) (te := tVar 6) (t := tTest (tOp (rIn K true) (tVar 6) (tVar 5))) (j := 6) (vs := [6]) (fun i => !decide (ls.getD i 0 ∈ cs)) (fun i => (ls.map V.int).getD i .non) (ev_var rfl) (SqL.of l5) (by rw [List.length_map]; omega) (fun _ => rfl) (fun i x H6 e6 hx H7 e7 Q7 k7 => by
            obtain ⟨z, hz, rfl⟩ := ints_get hx
            refine ⟨_, rfl, _, rfl, c, _, rfl, .inr (ex_t (e6.trans e7) hci), rfl, flat_ints, ?_⟩
            rw [if_pos rfl, inV_ints]
            have : ls.getD i 0 = z := by rw [List.getD_eq_getElem?_getD, hz]; rfl
            rw [this] at k7
            exact ⟨_, rfl, k7 H7 (Ex.refl _)⟩) (fun i x H6 e6 hx _ H7 e7 Q7 k7 => by
            have e : (ls.map V.int).getD i .non = x := by rw [List.getD_eq_getElem?_getD, hx]; rfl
            rw [e] at k7
            exact ⟨_, rfl, k7 H7 (Ex.refl _)⟩)
          rw [given_filter (p := fun z => !decide (z ∈ cs)) (by rw [List.length_map]) (fun i z hz => by rw [List.getD_eq_getElem?_getD, hz]; rfl)] at this
          exact this
        refine ev H5 (Ex.refl _) _ fun p H6 hp e6 hx => ?_
        refine ⟨(e.trans (e24.trans e5)).trans e6, p, ls.filter fun z => !decide (z ∈ cs), _, _, rfl, hx, Nat.le_trans (List.length_filter_le _ _) h64, fun k hk => hls k (List.mem_filter.mp hk).1, ?_⟩
        rw [if_neg (Nat.succ_ne_zero i)]
        exact hm
    · rintro σ H' ⟨e, l, ls, v4, v5, rfl, _, _, _, hm⟩
      refine fin _ _ e ?_
      show roundsL ks ds g = true
      have dz : ds.drop ((xs.length : Nat) : Int).toNat = [] := List.drop_eq_nil_of_le (by omega)
      rw [hm, dz]
      rfl
end
end L2.U


set_option Elab.async false
set_option linter.all false
set_option maxRecDepth 100000
set_option maxHeartbeats 4000000
namespace L2.U
open PySem PySem.Spec PyProof.Rows Evl


section
variable {P : Program} {w : World} {K : PySem.W.Frag} {mg : Str → Option Value} {base : Heap}
def RdLA (K : PySem.W.Frag) (ok : Addr → Prop) (H : Hp) (n : Nat) (xs : List V) (ds : List PyData) : Prop :=
  xs.length = ds.length ∧ ∀ (i : Nat) (x : V) (d : PyData), xs[i]? = some x → ds[i]? = some d → RdA K ok H n x d
theorem RdLA.ex {ok : Addr → Prop} {H H' : Hp} {n : Nat} {xs : List V} {ds : List PyData} (h : RdLA K ok H n xs ds) (e : Ex H H') : RdLA K ok H' n xs ds := ⟨h.1, fun i x d hx hd => (h.2 i x d hx hd).ex e⟩
theorem rdl_two {ok : Addr → Prop} {H : Hp} {n : Nat} {xs : List V} {ds : List PyData} (h : RdLA K ok H n xs ds) (l : ds.length = 2) : ∃ x y d e, xs = [x, y] ∧ ds = [d, e] ∧ RdA K ok H n x d ∧ RdA K ok H n y e := by
  obtain ⟨hl, hc⟩ := h
  match ds, xs, l, hl, hc with
  | [d, e], [x, y], _, _, hc => exact ⟨x, y, d, e, rfl, rfl, hc 0 x d rfl rfl, hc 1 y e rfl rfl⟩
theorem rdl_three {ok : Addr → Prop} {H : Hp} {n : Nat} {xs : List V} {ds : List PyData} (h : RdLA K ok H n xs ds) (l : ds.length = 3) : ∃ x y z d e f, xs = [x, y, z] ∧ ds = [d, e, f] ∧ RdA K ok H n x d ∧ RdA K ok H n y e ∧ RdA K ok H n z f := by
  obtain ⟨hl, hc⟩ := h
  match ds, xs, l, hl, hc with
  | [d, e, f], [x, y, z], _, _, hc => exact ⟨x, y, z, d, e, f, rfl, rfl, hc 0 x d rfl rfl, hc 1 y e rfl rfl, hc 2 z f rfl rfl⟩
def g0 (ds : List PyData) : PyData := ds.getD 0 .none
def g1 (ds : List PyData) : PyData := ds.getD 1 .none
def g2 (ds : List PyData) : PyData := ds.getD 2 .none
def gOf (kind : Int) : Int := if decide (2 < kind) = true then 1 else 0
theorem gOf_is (kind : Int) : gOf kind = 0 ∨ gOf kind = 1 := by unfold gOf; split <;> simp
def rfd (kind : Int) (ds : List PyData) : Option (Str × Nat) :=
  if kind = 0 ∨ kind = 3 then (if num16 (g0 ds) = false then some ("number", 0) else if sizesD (g1 ds) = false then some ("sizes", 1) else none)
  else if kindsD (g1 ds) = false then some ("kinds", 1)
  else if kind = 1 ∨ kind = 4 then (if sizesD (g2 ds) = false then some ("sizes", 2) else if rankD (gOf kind) (g0 ds) (g1 ds) (g2 ds) = false then some ("rank", 0) else none)
  else if roundsD (numsD (g1 ds)) (gOf kind) (g0 ds) = false then some ("rounds", 0) else none
def Arity (kind : Int) (n : Nat) : Prop := ((kind = 0 ∨ kind = 3) ∧ n = 2) ∨ ((kind = 1 ∨ kind = 4) ∧ n = 3) ∨ ((kind = 2 ∨ kind = 5 ∨ kind = 6) ∧ n = 2)
theorem in_two {H : Hp} {i a b : Int} {l : Addr} {Q : VK} {v : Bool} (h : H l = some (.lst [.int a, .int b])) (hv : v = decide (i = a ∨ i = b)) (q : Q (.bl v) H) : rIn K false (.int i) (.ref l) H Q := by
  refine ⟨l, [a, b].map V.int, rfl, .inl (SqL.of h), rfl, flat_ints, ?_⟩
  rw [if_neg (by decide), inV_ints]
  have : decide (i ∈ [a, b]) = v := by rw [hv]; exact decide_eq_decide.mpr (by simp)
  rw [this]
  exact q
def spRefused (K : PySem.W.Frag) : Sp := fun vs H Q _ => ∃ (kind : Int) (vt : Addr) (xs : List V) (ds : List PyData) (n : Nat) (ok : Addr → Prop), vs = [.int kind, .ref vt] ∧ SqT K H vt xs ∧ RdLA K ok H n xs ds ∧ n ≤ 19 ∧ Arity kind ds.length ∧
  (rfd kind ds = none → ∀ H', Ex H H' → Q .non H') ∧ (∀ w j x, rfd kind ds = some (w, j) → xs[j]? = some x → ∀ t H', Ex H H' → H' t = some (.tup [.str w, x]) → Q (.ref t) H')
theorem ok_law_refused (T : TK K mg) : FnOk P w K mg base CX0 3 T.law_refused.a T.law_refused.fd ["kind", "passed"] (spRefused K) := by
  refine T.law_refused.F.ok sc_law_refused (fun vs H Q E h => ?_) (fun cdv A outer s H vs Q E hr h => ?_)
  · obtain ⟨kind, vt, xs, ds, n, ok, rfl, _⟩ := h; rfl
  obtain ⟨kind, vt, xs, ds, n, ok, rfl, hv, r, hn, ar, q1, q2⟩ := h
  refine ⟨_, (pss_cons (ps_set (i := 2) sc_law_refused.nd rfl (Or.inl rfl) (pe_callTy call_int1 (by rfl) T.z_int (by decide +kernel) (pa_cons (pe_cmpR op_gt (pv 0) pe_int (nomark _)) pa_nil)))
    (pss_cons (ps_if (pt_cmpR (kin K) (pv 0) (pe_lst (pa_cons pe_int (pa_cons pe_int pa_nil))) (by rfl)) (pss_cons (ps_if (pt_not (pt_val (pe_call (ok_law_is_between T) (hr.mono (by decide)) rfl T.law_is_between.m T.law_is_between.F.kp T.law_is_between.b .nil pass0 (pa_cons (pe_ix (kixt K) (pv 1) pe_int (fun _ _ => rfl)) (pa_cons pe_int (pa_cons pe_int pa_nil)))))) (pss_one (ps_ret (pe_tup (pa_cons pe_str (pa_cons (pe_ix (kixt K) (pv 1) pe_int (fun _ _ => rfl)) pa_nil))))) pss_nil)
    (pss_one (ps_ret (pe_ifExp (pt_val (pe_call (ok_law_are_sizes T) (hr.mono (by decide)) rfl T.law_are_sizes.m T.law_are_sizes.F.kp T.law_are_sizes.b .nil pass0 (pa_cons (pe_ix (kixt K) (pv 1) pe_int (fun _ _ => rfl)) pa_nil))) pe_non (pe_tup (pa_cons pe_str (pa_cons (pe_ix (kixt K) (pv 1) pe_int (fun _ _ => rfl)) pa_nil))))))) pss_nil)
    (pss_cons (ps_if (pt_not (pt_val (pe_call (ok_law_are_kinds T) (hr.mono (by decide)) rfl T.law_are_kinds.m T.law_are_kinds.F.kp T.law_are_kinds.b .nil pass0 (pa_cons (pe_ix (kixt K) (pv 1) pe_int (fun _ _ => rfl)) pa_nil)))) (pss_one (ps_ret (pe_tup (pa_cons pe_str (pa_cons (pe_ix (kixt K) (pv 1) pe_int (fun _ _ => rfl)) pa_nil))))) pss_nil)
    (pss_cons (ps_if (pt_cmpR (kin K) (pv 0) (pe_lst (pa_cons pe_int (pa_cons pe_int pa_nil))) (by rfl)) (pss_cons (ps_if (pt_not (pt_val (pe_call (ok_law_are_sizes T) (hr.mono (by decide)) rfl T.law_are_sizes.m T.law_are_sizes.F.kp T.law_are_sizes.b .nil pass0 (pa_cons (pe_ix (kixt K) (pv 1) pe_int (fun _ _ => rfl)) pa_nil)))) (pss_one (ps_ret (pe_tup (pa_cons pe_str (pa_cons (pe_ix (kixt K) (pv 1) pe_int (fun _ _ => rfl)) pa_nil))))) pss_nil)
    (pss_one (ps_ret (pe_ifExp (pt_val (pe_call (ok_law_is_between T) (hr.mono (by decide)) rfl T.law_is_between.m T.law_is_between.F.kp T.law_is_between.b .nil pass0 (pa_cons (pe_ix (kixt K) (pv 1) pe_int (fun _ _ => rfl)) (pa_cons pe_int (pa_cons (pe_op op_sub (pe_call (ok_law_many T) (hr.mono (by decide)) rfl T.law_many.m T.law_many.F.kp T.law_many.b .nil pass0 (pa_cons (pe_callB (klen K) (by rfl) T.z_len (by decide +kernel) (pa_cons (pe_ix (kixt K) (pv 1) pe_int (fun _ _ => rfl)) pa_nil)) (pa_cons (pe_ix (kixt K) (pv 1) pe_int (fun _ _ => rfl)) (pa_cons (pv 2) pa_nil)))) pe_int) pa_nil))))) pe_non (pe_tup (pa_cons pe_str (pa_cons (pe_ix (kixt K) (pv 1) pe_int (fun _ _ => rfl)) pa_nil))))))) pss_nil)
    (pss_one (ps_ret (pe_ifExp (pt_val (pe_call (ok_law_are_rounds T) (hr.mono (by decide)) rfl T.law_are_rounds.m T.law_are_rounds.F.kp T.law_are_rounds.b .nil pass0 (pa_cons (pe_ix (kixt K) (pv 1) pe_int (fun _ _ => rfl)) (pa_cons (pe_ix (kixt K) (pv 1) pe_int (fun _ _ => rfl)) (pa_cons (pv 2) pa_nil))))) pe_non (pe_tup (pa_cons pe_str (pa_cons (pe_ix (kixt K) (pv 1) pe_int (fun _ _ => rfl)) pa_nil)))))))))), ?_⟩
  have out : ∀ (w : Str) (j : Nat) (x : V), rfd kind ds = some (w, j) → xs[j]? = some x → ∀ H1, Ex H H1 → ∀ t, H1 t = none → Q (.ref t) (upd H1 t (.tup [.str w, x])) :=
    fun w j x h hx H1 e1 t ht => q2 w j x h hx t _ (e1.trans (Ex.new ht)) upd_same
  refine ⟨_, rfl, _, _, rfl, rfl, .inr ⟨_, rfl, ?_⟩⟩
  refine ⟨_, rfl, two_le, fun l1 hl1 => ?_⟩
  have x1 : Ex H (upd H l1 (.lst [.int 0, .int 3])) := Ex.new hl1
  rcases ar with ⟨hk, l⟩ | ⟨hk, l⟩ | ⟨hk, l⟩
  · obtain ⟨x, y, d, e, rfl, rfl, rx, ry⟩ := rdl_two r l
    refine in_two (v := true) upd_same (by rw [decide_eq_true hk]) ⟨_, rfl, iteT ?_⟩
    generalize upd H l1 (.lst [.int 0, .int 3]) = H1 at x1 ⊢
    have hv1 := ex_t x1 hv
    refine ⟨_, rfl, _, _, _, _, rfl, rfl, hv1, rfl, _, _, _, _, _, _, rfl, rx.ex x1, ⟨_, rfl, ?_⟩⟩
    cases c : betwD 0 16 d with
    | false => exact iteT ⟨_, rfl, _, _, _, _, rfl, rfl, hv1, rfl, two_le, fun t ht => out "number" 0 x (by unfold rfd num16 g0; rw [if_pos hk]; simp [c]) rfl H1 x1 t ht⟩
    | true =>
      refine iteF ⟨_, rfl, _, _, _, _, rfl, rfl, hv1, rfl, _, _, _, _, rfl, ry.ex x1, by omega, fun H2 e2 => ⟨_, rfl, ?_⟩⟩
      cases c1 : sizesD e with
      | false => exact iteF ⟨_, rfl, _, _, _, _, rfl, rfl, ex_t e2 hv1, rfl, two_le, fun t ht => out "sizes" 1 y (by unfold rfd num16 g0 g1; rw [if_pos hk]; simp [c, c1]) rfl H2 (x1.trans e2) t ht⟩
      | true => exact iteT (q1 (by unfold rfd num16 g0 g1; rw [if_pos hk]; simp [c, c1]) _ (x1.trans e2))
  · obtain ⟨x, y, z, d, e, f, rfl, rfl, rx, ry, rz⟩ := rdl_three r l
    have nk : ¬ (kind = 0 ∨ kind = 3) := by omega
    refine in_two (v := false) upd_same (by rw [decide_eq_false nk]) ⟨_, rfl, iteF ?_⟩
    generalize upd H l1 (.lst [.int 0, .int 3]) = H1 at x1 ⊢
    have hv1 := ex_t x1 hv
    refine ⟨_, rfl, _, _, _, _, rfl, rfl, hv1, rfl, _, _, _, _, rfl, ry.ex x1, by omega, fun H2 e2 => ⟨_, rfl, ?_⟩⟩
    cases c : kindsD e with
    | false => exact iteT ⟨_, rfl, _, _, _, _, rfl, rfl, ex_t e2 hv1, rfl, two_le, fun t ht => out "kinds" 1 y (by unfold rfd g1; rw [if_neg nk]; simp [c]) rfl H2 (x1.trans e2) t ht⟩
    | true =>
    refine iteF ⟨_, rfl, two_le, fun l2 hl2 => ?_⟩
    have x2 := (x1.trans e2).trans (Ex.new (o := .lst [.int 1, .int 4]) hl2)
    refine in_two (v := true) upd_same (by rw [decide_eq_true hk]) ⟨_, rfl, iteT ?_⟩
    generalize upd H2 l2 (.lst [.int 1, .int 4]) = H3 at x2 ⊢
    have hv3 := ex_t x2 hv
    refine ⟨_, rfl, _, _, _, _, rfl, rfl, hv3, rfl, _, _, _, _, rfl, rz.ex x2, by omega, fun H4 e4 => ⟨_, rfl, ?_⟩⟩
    have x4 := x2.trans e4
    have hv4 := ex_t x4 hv
    cases c1 : sizesD f with
    | false => exact iteT ⟨_, rfl, _, _, _, _, rfl, rfl, hv4, rfl, two_le, fun t ht => out "sizes" 2 z (by unfold rfd g1 g2; rw [if_neg nk, if_pos hk]; simp [c, c1]) rfl H4 x4 t ht⟩
    | true =>
    obtain ⟨a, rfl, ha, hl, hkk⟩ := kinds_get ((ry.ex x4).rd (kinds_seq c)) c
    obtain ⟨b, rfl, hb, hl2, hk2⟩ := sizes_get ((rz.ex x4).rd (sizes_seq c1)) c1
    refine iteF ⟨_, rfl, _, _, _, _, rfl, rfl, hv4, rfl, _, rfl, _, _, _, _, rfl, rfl, hv4, rfl, _, _, rfl, (ha.imp (fun z => ⟨_, z, rfl⟩) (fun z => ⟨_, z, rfl⟩)), _, rfl, _, _, _, _, rfl, rfl, hv4, rfl, _, rfl, (((numsD e).map V.int).length : Int), gOf kind, b, numsD f, rfl, hb, by rw [List.length_map]; omega, by have := gOf_is kind; omega, hk2, _, _, rfl, rfl, ?_⟩
    refine ⟨_, _, _, _, _, _, rfl, rx.ex x4, ⟨_, rfl, ?_⟩⟩
    have e0 : betwD 0 (manyI (((numsD e).map V.int).length : Int) (numsD f) (gOf kind) - 1) d = rankD (gOf kind) d e f := by unfold rankD; rw [List.length_map]
    rw [e0]
    cases c2 : rankD (gOf kind) d e f with
    | false => exact iteF ⟨_, rfl, _, _, _, _, rfl, rfl, hv4, rfl, two_le, fun t ht => out "rank" 0 x (by unfold rfd g0 g1 g2; rw [if_neg nk, if_pos hk]; simp [c, c1, c2]) rfl H4 x4 t ht⟩
    | true => exact iteT (q1 (by unfold rfd g0 g1 g2; rw [if_neg nk, if_pos hk]; simp [c, c1, c2]) _ x4)
  · obtain ⟨x, y, d, e, rfl, rfl, rx, ry⟩ := rdl_two r l
    have nk : ¬ (kind = 0 ∨ kind = 3) := by omega
    have nk2 : ¬ (kind = 1 ∨ kind = 4) := by omega
    refine in_two (v := false) upd_same (by rw [decide_eq_false nk]) ⟨_, rfl, iteF ?_⟩
    generalize upd H l1 (.lst [.int 0, .int 3]) = H1 at x1 ⊢
    have hv1 := ex_t x1 hv
    refine ⟨_, rfl, _, _, _, _, rfl, rfl, hv1, rfl, _, _, _, _, rfl, ry.ex x1, by omega, fun H2 e2 => ⟨_, rfl, ?_⟩⟩
    cases c : kindsD e with
    | false => exact iteT ⟨_, rfl, _, _, _, _, rfl, rfl, ex_t e2 hv1, rfl, two_le, fun t ht => out "kinds" 1 y (by unfold rfd g1; rw [if_neg nk]; simp [c]) rfl H2 (x1.trans e2) t ht⟩
    | true =>
    refine iteF ⟨_, rfl, two_le, fun l2 hl2 => ?_⟩
    have x2 := (x1.trans e2).trans (Ex.new (o := .lst [.int 1, .int 4]) hl2)
    refine in_two (v := false) upd_same (by rw [decide_eq_false nk2]) ⟨_, rfl, iteF ?_⟩
    generalize upd H2 l2 (.lst [.int 1, .int 4]) = H3 at x2 ⊢
    have hv3 := ex_t x2 hv
    obtain ⟨a, rfl, ha, hl, hkk⟩ := kinds_get ((ry.ex x2).rd (kinds_seq c)) c
    refine ⟨_, rfl, _, _, _, _, rfl, rfl, hv3, rfl, _, rfl, _, _, _, _, rfl, rfl, hv3, rfl, _, rfl, x, d, _, _, a, numsD e, gOf kind, rfl, rx.ex x2, by omega, ha, by omega, hkk, gOf_is kind, fun H4 e4 => ⟨_, rfl, ?_⟩⟩
    have x4 := x2.trans e4
    have hv4 := ex_t x4 hv
    cases c2 : roundsD (numsD e) (gOf kind) d with
    | false => exact iteF ⟨_, rfl, _, _, _, _, rfl, rfl, hv4, rfl, two_le, fun t ht => out "rounds" 0 x (by unfold rfd g0 g1; rw [if_neg nk, if_neg nk2]; simp [c, c2]) rfl H4 x4 t ht⟩
    | true => exact iteT (q1 (by unfold rfd g0 g1; rw [if_neg nk, if_neg nk2]; simp [c, c2]) _ x4)
end
end L2.U


set_option Elab.async false
set_option linter.all false
set_option maxRecDepth 100000
set_option maxHeartbeats 4000000
namespace L2.U
open PySem PySem.Spec PyProof.Rows Evl


section
variable {P : Program} {w : World} {K : PySem.W.Frag} {mg : Str → Option Value} {base : Heap}
def Res (kind : Int) (v : V) (H : Hp) : Prop := if kind = 1 ∨ kind = 4 ∨ kind = 6 then ∃ (p : Addr) (xs : List V), v = .ref p ∧ H p = some (.tup xs) else ∃ r : Int, v = .int r ∧ 0 ≤ r ∧ r ≤ 10 ^ 20
theorem Res.ex {kind : Int} {v : V} {H H' : Hp} (h : Res kind v H) (e : Ex H H') : Res kind v H' := by
  unfold Res at h ⊢
  split
  · rename_i c; rw [if_pos c] at h; obtain ⟨p, xs, h1, h2⟩ := h; exact ⟨p, xs, h1, e _ _ h2⟩
  · rename_i c; rw [if_neg c] at h; exact h
theorem res_int {kind : Int} (c : ¬ (kind = 1 ∨ kind = 4 ∨ kind = 6)) {H : Hp} {r : Int} (h0 : 0 ≤ r) (h1 : r ≤ 10 ^ 20) : Res kind (.int r) H := by unfold Res; rw [if_neg c]; exact ⟨r, rfl, h0, h1⟩
theorem res_tup {kind : Int} (c : kind = 1 ∨ kind = 4 ∨ kind = 6) {H : Hp} {p : Addr} {xs : List V} (h : H p = some (.tup xs)) : Res kind (.ref p) H := by unfold Res; rw [if_pos c]; exact ⟨p, xs, rfl, h⟩
def spAsked (K : PySem.W.Frag) (CN CK CS CR CO : Addr) : Sp := fun vs H Q E => ∃ (kind named : Int) (p : Addr) (xs : List V) (ds : List PyData) (n : Nat) (ok : Addr → Prop), vs = [.int kind, .int named, .ref p] ∧ SqL K H p xs ∧ RdLA K ok H n xs ds ∧ n ≤ 19 ∧ Arity kind ds.length ∧
  (rfd kind ds = none → ∀ v H', Ex H H' → Res kind v H' → Q v H') ∧
  (rfd kind ds = some (("number" : Str), 0) → ∀ x, xs[0]? = some x → ∀ e H', Ex H H' → H' e = some (.xd [("given", x)]) → E (.ref CN) (some e) H') ∧
  (rfd kind ds = some (("kinds" : Str), 1) → ∀ x, xs[1]? = some x → ∀ e H', Ex H H' → H' e = some (.xd [("given", x)]) → E (.ref CK) (some e) H') ∧
  (∀ j, rfd kind ds = some (("sizes" : Str), j) → ∀ x, xs[j]? = some x → ∀ e H', Ex H H' → H' e = some (.xd [("given", x)]) → E (.ref CS) (some e) H') ∧
  (rfd kind ds = some (("rank" : Str), 0) → ∀ x, xs[0]? = some x → ∀ e H', Ex H H' → H' e = some (.xd [("given", x)]) → E (.ref CR) (some e) H') ∧
  (rfd kind ds = some (("rounds" : Str), 0) → ∀ x, xs[0]? = some x → ∀ e H', Ex H H' → H' e = some (.xd [("given", x)]) → E (.ref CO) (some e) H')
theorem ok_law_asked (T : TK K mg) : FnOk P w K mg base (L2.CX P w) 8 T.law_asked.a T.law_asked.fd ["kind", "named", "passed"] (spAsked K T.InvalidNumber.C T.InvalidKinds.C T.InvalidSizes.C T.InvalidRank.C T.InvalidRounds.C) := by
  refine T.law_asked.F.okX sc_law_asked (fun vs H Q E h => ?_) (fun cdv A outer s H vs Q E hr h => ?_)
  · obtain ⟨kind, named, p, xs, ds, n, ok, rfl, _⟩ := h; rfl
  obtain ⟨kind, named, p, xs, ds, n, ok, rfl, hL, r, hn, ar, q, qN, qK, qS, qR, qO⟩ := h
  refine ⟨_, (pss_cons (ps_if (pt_cmpR op_eq (pv 0) pe_int (nomark _)) (pss_one (ps_ret (pe_ifExp (pt_cmpR op_eq (pv 1) pe_int (nomark _)) (by exact (pe_callS (ok_many_rounds T.toTA2) (hr.mono (by decide)) rfl T.many_rounds.m T.many_rounds.F.kp T.many_rounds.b (fun σ => passAt (takes_of rfl rfl rfl rfl) σ) (pa_cons (pe_ix (kixl K) (pv 2) pe_int (fun _ _ => rfl)) (pa_cons (pe_ix (kixl K) (pv 2) pe_int (fun _ _ => rfl)) pa_nil)))) (by exact (pe_callKw (ok_many_rounds T.toTA2) (hr.mono (by decide)) rfl T.many_rounds.m T.many_rounds.F.kp T.kb_many_rounds_sizes_count (fun σ => passAt (takes_of rfl rfl rfl rfl) σ) (pk_cons (pe_ix (kixl K) (pv 2) pe_int (fun _ _ => rfl)) (pk_cons (pe_ix (kixl K) (pv 2) pe_int (fun _ _ => rfl)) pk_nil))))))) pss_nil)
    (pss_cons (ps_if (PW.pt (pw_and (pt_cmpR op_eq (pv 0) pe_int (nomark _)) (pw_and1 (pt_cmpR op_eq (pv 1) pe_int (nomark _))))) (pss_one (ps_ret (by exact (pe_callS (ok_rounds_of T.toTA2) (hr.mono (by decide)) rfl T.rounds_of.m T.rounds_of.F.kp T.rounds_of.b (fun σ => passAt (takes_of rfl rfl rfl rfl) σ) (pa_cons (pe_ix (kixl K) (pv 2) pe_int (fun _ _ => rfl)) (pa_cons (pe_ix (kixl K) (pv 2) pe_int (fun _ _ => rfl)) (pa_cons (pe_ix (kixl K) (pv 2) pe_int (fun _ _ => rfl)) pa_nil))))))) pss_nil)
    (pss_cons (ps_if (pt_cmpR op_eq (pv 0) pe_int (nomark _)) (pss_one (ps_ret (by exact (pe_callKw (ok_rounds_of T.toTA2) (hr.mono (by decide)) rfl T.rounds_of.m T.rounds_of.F.kp T.kb_rounds_of_sizes_kinds_rank (fun σ => passAt (takes_of rfl rfl rfl rfl) σ) (pk_cons (pe_ix (kixl K) (pv 2) pe_int (fun _ _ => rfl)) (pk_cons (pe_ix (kixl K) (pv 2) pe_int (fun _ _ => rfl)) (pk_cons (pe_ix (kixl K) (pv 2) pe_int (fun _ _ => rfl)) pk_nil))))))) pss_nil)
    (pss_cons (ps_if (pt_cmpR op_eq (pv 0) pe_int (nomark _)) (pss_one (ps_ret (pe_ifExp (pt_cmpR op_eq (pv 1) pe_int (nomark _)) (by exact (pe_callS (ok_rank_of T.toTA2) (hr.mono (by decide)) rfl T.rank_of.m T.rank_of.F.kp T.rank_of.b (fun σ => passAt (takes_of rfl rfl rfl rfl) σ) (pa_cons (pe_ix (kixl K) (pv 2) pe_int (fun _ _ => rfl)) (pa_cons (pe_ix (kixl K) (pv 2) pe_int (fun _ _ => rfl)) pa_nil)))) (by exact (pe_callKw (ok_rank_of T.toTA2) (hr.mono (by decide)) rfl T.rank_of.m T.rank_of.F.kp T.kb_rank_of_kinds_rounds (fun σ => passAt (takes_of rfl rfl rfl rfl) σ) (pk_cons (pe_ix (kixl K) (pv 2) pe_int (fun _ _ => rfl)) (pk_cons (pe_ix (kixl K) (pv 2) pe_int (fun _ _ => rfl)) pk_nil))))))) pss_nil)
    (pss_cons (ps_if (pt_cmpR op_eq (pv 0) pe_int (nomark _)) (pss_one (ps_ret (pe_ifExp (pt_cmpR op_eq (pv 1) pe_int (nomark _)) (by exact (pe_callS (ok_many_raised T.toTA2) (hr.mono (by decide)) rfl T.many_raised.m T.many_raised.F.kp T.many_raised.b (fun σ => passAt (takes_of rfl rfl rfl rfl) σ) (pa_cons (pe_ix (kixl K) (pv 2) pe_int (fun _ _ => rfl)) (pa_cons (pe_ix (kixl K) (pv 2) pe_int (fun _ _ => rfl)) pa_nil)))) (by exact (pe_callKw (ok_many_raised T.toTA2) (hr.mono (by decide)) rfl T.many_raised.m T.many_raised.F.kp T.kb_many_raised_sizes_count (fun σ => passAt (takes_of rfl rfl rfl rfl) σ) (pk_cons (pe_ix (kixl K) (pv 2) pe_int (fun _ _ => rfl)) (pk_cons (pe_ix (kixl K) (pv 2) pe_int (fun _ _ => rfl)) pk_nil))))))) pss_nil)
    (pss_cons (ps_if (PW.pt (pw_and (pt_cmpR op_eq (pv 0) pe_int (nomark _)) (pw_and1 (pt_cmpR op_eq (pv 1) pe_int (nomark _))))) (pss_one (ps_ret (by exact (pe_callS (ok_raised_of T.toTA2) (hr.mono (by decide)) rfl T.raised_of.m T.raised_of.F.kp T.raised_of.b (fun σ => passAt (takes_of rfl rfl rfl rfl) σ) (pa_cons (pe_ix (kixl K) (pv 2) pe_int (fun _ _ => rfl)) (pa_cons (pe_ix (kixl K) (pv 2) pe_int (fun _ _ => rfl)) (pa_cons (pe_ix (kixl K) (pv 2) pe_int (fun _ _ => rfl)) pa_nil))))))) pss_nil)
    (pss_cons (ps_if (pt_cmpR op_eq (pv 0) pe_int (nomark _)) (pss_one (ps_ret (by exact (pe_callKw (ok_raised_of T.toTA2) (hr.mono (by decide)) rfl T.raised_of.m T.raised_of.F.kp T.kb_raised_of_sizes_wires_rank (fun σ => passAt (takes_of rfl rfl rfl rfl) σ) (pk_cons (pe_ix (kixl K) (pv 2) pe_int (fun _ _ => rfl)) (pk_cons (pe_ix (kixl K) (pv 2) pe_int (fun _ _ => rfl)) (pk_cons (pe_ix (kixl K) (pv 2) pe_int (fun _ _ => rfl)) pk_nil))))))) pss_nil)
    (pss_cons (ps_if (pt_cmpR op_eq (pv 0) pe_int (nomark _)) (pss_one (ps_ret (pe_ifExp (pt_cmpR op_eq (pv 1) pe_int (nomark _)) (by exact (pe_callS (ok_raised_rank T.toTA2) (hr.mono (by decide)) rfl T.raised_rank.m T.raised_rank.F.kp T.raised_rank.b (fun σ => passAt (takes_of rfl rfl rfl rfl) σ) (pa_cons (pe_ix (kixl K) (pv 2) pe_int (fun _ _ => rfl)) (pa_cons (pe_ix (kixl K) (pv 2) pe_int (fun _ _ => rfl)) pa_nil)))) (by exact (pe_callKw (ok_raised_rank T.toTA2) (hr.mono (by decide)) rfl T.raised_rank.m T.raised_rank.F.kp T.kb_raised_rank_wires_rounds (fun σ => passAt (takes_of rfl rfl rfl rfl) σ) (pk_cons (pe_ix (kixl K) (pv 2) pe_int (fun _ _ => rfl)) (pk_cons (pe_ix (kixl K) (pv 2) pe_int (fun _ _ => rfl)) pk_nil))))))) pss_nil)
    (pss_one (ps_ret (pe_ifExp (pt_cmpR op_eq (pv 1) pe_int (nomark _)) (by exact (pe_callS (ok_answers_of T.toTA2) (hr.mono (by decide)) rfl T.answers_of.m T.answers_of.F.kp T.answers_of.b (fun σ => passAt (takes_of rfl rfl rfl rfl) σ) (pa_cons (pe_ix (kixl K) (pv 2) pe_int (fun _ _ => rfl)) (pa_cons (pe_ix (kixl K) (pv 2) pe_int (fun _ _ => rfl)) pa_nil)))) (by exact (pe_callKw (ok_answers_of T.toTA2) (hr.mono (by decide)) rfl T.answers_of.m T.answers_of.F.kp T.kb_answers_of_wires_rounds (fun σ => passAt (takes_of rfl rfl rfl rfl) σ) (pk_cons (pe_ix (kixl K) (pv 2) pe_int (fun _ _ => rfl)) (pk_cons (pe_ix (kixl K) (pv 2) pe_int (fun _ _ => rfl)) pk_nil))))))))))))))), ?_⟩
  have ar2 : ((kind = 0 ∧ ds.length = 2) ∨ (kind = 1 ∧ ds.length = 3) ∨ (kind = 2 ∧ ds.length = 2) ∨ (kind = 3 ∧ ds.length = 2) ∨ (kind = 4 ∧ ds.length = 3) ∨ (kind = 5 ∧ ds.length = 2) ∨ (kind = 6 ∧ ds.length = 2)) := by unfold Arity at ar; omega
  rcases ar2 with ⟨rfl, l⟩ | ⟨rfl, l⟩ | ⟨rfl, l⟩ | ⟨rfl, l⟩ | ⟨rfl, l⟩ | ⟨rfl, l⟩ | ⟨rfl, l⟩
  · obtain ⟨x, y, d, f, rfl, rfl, rx, ry⟩ := rdl_two r l
    refine ⟨_, rfl, rfl, _, rfl, iteT ⟨_, rfl, rfl, _, rfl, ite2 (fun _ => ?_) (fun _ => ?_)⟩⟩
    all_goals
      refine ⟨_, rfl, _, _, _, _, rfl, rfl, hL, rfl, _, rfl, _, _, _, _, rfl, rfl, hL, rfl, x, y, d, f, n, ok, rfl, rx, ry, fun c c2 v H' e r0 r1 => ?_, fun c e H' ex he => ?_, fun c c2 e H' ex he => ?_⟩
      · exact q (by unfold rfd g0 g1; simp [c, c2]) _ H' e (res_int (by decide) r0 r1)
      · exact qN (by unfold rfd g0; simp [c]) x rfl e H' ex he
      · exact qS 1 (by unfold rfd g0 g1; simp [c, c2]) y rfl e H' ex he
  · obtain ⟨x, y, z, d, f, h, rfl, rfl, rx, ry, rz⟩ := rdl_three r l
    have eg : gOf 1 = 0 := by decide
    refine ⟨_, rfl, rfl, _, rfl, iteF ⟨_, rfl, rfl, _, rfl, iteT ⟨_, rfl, rfl, _, rfl, ite2 (fun _ => ?_) (fun _ => ⟨_, rfl, rfl, _, rfl, iteT ?_⟩)⟩⟩⟩
    all_goals
      refine ⟨_, rfl, _, _, _, _, rfl, rfl, hL, rfl, _, rfl, _, _, _, _, rfl, rfl, hL, rfl, _, rfl, _, _, _, _, rfl, rfl, hL, rfl, x, y, z, d, f, h, n, ok, rfl, rx, ry, rz, fun c c2 c3 pp xs H' e hp => ?_, fun c e H' ex he => ?_, fun c c2 e H' ex he => ?_, fun c c2 c3 e H' ex he => ?_⟩
      · exact q (by unfold rfd g0 g1 g2; rw [eg]; simp [c, c2, c3]) _ H' e (res_tup (by decide) hp)
      · exact qK (by unfold rfd g1; simp [c]) y rfl e H' ex he
      · exact qS 2 (by unfold rfd g1 g2; simp [c, c2]) z rfl e H' ex he
      · exact qR (by unfold rfd g0 g1 g2; rw [eg]; simp [c, c2, c3]) x rfl e H' ex he
  · obtain ⟨x, y, d, f, rfl, rfl, rx, ry⟩ := rdl_two r l
    have eg : gOf 2 = 0 := by decide
    refine ⟨_, rfl, rfl, _, rfl, iteF ⟨_, rfl, rfl, _, rfl, iteF (iteF ⟨_, rfl, rfl, _, rfl, iteF ⟨_, rfl, rfl, _, rfl, iteT ⟨_, rfl, rfl, _, rfl, ite2 (fun _ => ?_) (fun _ => ?_)⟩⟩⟩)⟩⟩
    all_goals
      refine ⟨_, rfl, _, _, _, _, rfl, rfl, hL, rfl, _, rfl, _, _, _, _, rfl, rfl, hL, rfl, x, y, d, f, n, ok, rfl, rx, ry, by omega, fun c c2 v H' e r0 r1 => ?_, fun c e H' ex he => ?_, fun c c2 e H' ex he => ?_⟩
      · exact q (by unfold rfd g0 g1; rw [eg]; simp [c, c2]) _ H' e (res_int (by decide) r0 r1)
      · exact qK (by unfold rfd g1; simp [c]) y rfl e H' ex he
      · exact qO (by unfold rfd g0 g1; rw [eg]; simp [c, c2]) x rfl e H' ex he
  · obtain ⟨x, y, d, f, rfl, rfl, rx, ry⟩ := rdl_two r l
    refine ⟨_, rfl, rfl, _, rfl, iteF ⟨_, rfl, rfl, _, rfl, iteF (iteF ⟨_, rfl, rfl, _, rfl, iteF ⟨_, rfl, rfl, _, rfl, iteF ⟨_, rfl, rfl, _, rfl, iteT ⟨_, rfl, rfl, _, rfl, ite2 (fun _ => ?_) (fun _ => ?_)⟩⟩⟩⟩)⟩⟩
    all_goals
      refine ⟨_, rfl, _, _, _, _, rfl, rfl, hL, rfl, _, rfl, _, _, _, _, rfl, rfl, hL, rfl, x, y, d, f, n, ok, rfl, rx, ry, fun c c2 v H' e r0 r1 => ?_, fun c e H' ex he => ?_, fun c c2 e H' ex he => ?_⟩
      · exact q (by unfold rfd g0 g1; simp [c, c2]) _ H' e (res_int (by decide) r0 r1)
      · exact qN (by unfold rfd g0; simp [c]) x rfl e H' ex he
      · exact qS 1 (by unfold rfd g0 g1; simp [c, c2]) y rfl e H' ex he
  · obtain ⟨x, y, z, d, f, h, rfl, rfl, rx, ry, rz⟩ := rdl_three r l
    have eg : gOf 4 = 1 := by decide
    refine ⟨_, rfl, rfl, _, rfl, iteF ⟨_, rfl, rfl, _, rfl, iteF (iteF ⟨_, rfl, rfl, _, rfl, iteF ⟨_, rfl, rfl, _, rfl, iteF ⟨_, rfl, rfl, _, rfl, iteF ⟨_, rfl, rfl, _, rfl, iteT ⟨_, rfl, rfl, _, rfl, ite2 (fun _ => ?_) (fun _ => ⟨_, rfl, rfl, _, rfl, iteT ?_⟩)⟩⟩⟩⟩⟩)⟩⟩
    all_goals
      refine ⟨_, rfl, _, _, _, _, rfl, rfl, hL, rfl, _, rfl, _, _, _, _, rfl, rfl, hL, rfl, _, rfl, _, _, _, _, rfl, rfl, hL, rfl, x, y, z, d, f, h, n, ok, rfl, rx, ry, rz, fun c c2 c3 pp xs H' e hp => ?_, fun c e H' ex he => ?_, fun c c2 e H' ex he => ?_, fun c c2 c3 e H' ex he => ?_⟩
      · exact q (by unfold rfd g0 g1 g2; rw [eg]; simp [c, c2, c3]) _ H' e (res_tup (by decide) hp)
      · exact qK (by unfold rfd g1; simp [c]) y rfl e H' ex he
      · exact qS 2 (by unfold rfd g1 g2; simp [c, c2]) z rfl e H' ex he
      · exact qR (by unfold rfd g0 g1 g2; rw [eg]; simp [c, c2, c3]) x rfl e H' ex he
  · obtain ⟨x, y, d, f, rfl, rfl, rx, ry⟩ := rdl_two r l
    have eg : gOf 5 = 1 := by decide
    refine ⟨_, rfl, rfl, _, rfl, iteF ⟨_, rfl, rfl, _, rfl, iteF (iteF ⟨_, rfl, rfl, _, rfl, iteF ⟨_, rfl, rfl, _, rfl, iteF ⟨_, rfl, rfl, _, rfl, iteF ⟨_, rfl, rfl, _, rfl, iteF (iteF ⟨_, rfl, rfl, _, rfl, iteF ⟨_, rfl, rfl, _, rfl, iteT ⟨_, rfl, rfl, _, rfl, ite2 (fun _ => ?_) (fun _ => ?_)⟩⟩⟩)⟩⟩⟩⟩)⟩⟩
    all_goals
      refine ⟨_, rfl, _, _, _, _, rfl, rfl, hL, rfl, _, rfl, _, _, _, _, rfl, rfl, hL, rfl, x, y, d, f, n, ok, rfl, rx, ry, by omega, fun c c2 v H' e r0 r1 => ?_, fun c e H' ex he => ?_, fun c c2 e H' ex he => ?_⟩
      · exact q (by unfold rfd g0 g1; rw [eg]; simp [c, c2]) _ H' e (res_int (by decide) r0 r1)
      · exact qK (by unfold rfd g1; simp [c]) y rfl e H' ex he
      · exact qO (by unfold rfd g0 g1; rw [eg]; simp [c, c2]) x rfl e H' ex he
  · obtain ⟨x, y, d, f, rfl, rfl, rx, ry⟩ := rdl_two r l
    have eg : gOf 6 = 1 := by decide
    refine ⟨_, rfl, rfl, _, rfl, iteF ⟨_, rfl, rfl, _, rfl, iteF (iteF ⟨_, rfl, rfl, _, rfl, iteF ⟨_, rfl, rfl, _, rfl, iteF ⟨_, rfl, rfl, _, rfl, iteF ⟨_, rfl, rfl, _, rfl, iteF (iteF ⟨_, rfl, rfl, _, rfl, iteF ⟨_, rfl, rfl, _, rfl, iteF ⟨_, rfl, rfl, _, rfl, ite2 (fun _ => ?_) (fun _ => ?_)⟩⟩⟩)⟩⟩⟩⟩)⟩⟩
    all_goals
      refine ⟨_, rfl, _, _, _, _, rfl, rfl, hL, rfl, _, rfl, _, _, _, _, rfl, rfl, hL, rfl, x, y, d, f, n, ok, rfl, rx, ry, by omega, fun c c2 pp xs H' e hp => ?_, fun c e H' ex he => ?_, fun c c2 e H' ex he => ?_⟩
      · exact q (by unfold rfd g0 g1; rw [eg]; simp [c, c2]) _ H' e (res_tup (by decide) hp)
      · exact qK (by unfold rfd g1; simp [c]) y rfl e H' ex he
      · exact qO (by unfold rfd g0 g1; rw [eg]; simp [c, c2]) x rfl e H' ex he
def spTold (K : PySem.W.Frag) : Sp := fun vs H Q _ => ∃ (kind named : Int) (p : Addr) (xs : List V) (ds : List PyData) (n : Nat) (ok : Addr → Prop), vs = [.int kind, .int named, .ref p] ∧ SqL K H p xs ∧ RdLA K ok H n xs ds ∧ n ≤ 19 ∧ Arity kind ds.length ∧
  (rfd kind ds = none → ∀ v t H', Ex H H' → Res kind v H' → H' t = some (.tup [.str "done", v]) → Q (.ref t) H') ∧
  (∀ w j x, rfd kind ds = some (w, j) → xs[j]? = some x → ∀ t H', Ex H H' → H' t = some (.tup [.str w, x]) → Q (.ref t) H')
theorem ok_law_told (T : TK K mg) : FnOk P w K mg base CX0 9 T.law_told.a T.law_told.fd ["kind", "named", "passed"] (spTold K) := by
  refine T.law_told.F.ok sc_law_told (fun vs H Q E h => ?_) (fun cdv A outer s H vs Q E hr h => ?_)
  · obtain ⟨kind, named, p, xs, ds, n, ok, rfl, _⟩ := h; rfl
  obtain ⟨kind, named, p, xs, ds, n, ok, rfl, hL, r, hn, ar, q1, q2⟩ := h
  refine ⟨_, (pss_one (ps_tryC rfl rfl takes0 (fun W pn xe tk _ => (pss_one (ps_ret (pe_tup (pa_cons pe_str (pa_cons (by exact (pe_callS (ok_law_asked T) (hr.mono (by decide)) rfl T.law_asked.m T.law_asked.F.kp T.law_asked.b (fun σ => passAt tk σ) (pa_cons (pv 0) (pa_cons (pv 1) (pa_cons (pv 2) pa_nil))))) pa_nil)))))) (ClausesOk.cons (ClauseOk.named (i := 3) sc_law_told.nd rfl rfl ⟨rfl, by decide, Or.inl T.InvalidNumber.gC⟩ (fun a oe cls d pn hz hf => (pss_one (ps_ret (pe_tup (pa_cons pe_str (pa_cons (pe_xf T.InvalidNumber.xf T.InvalidNumber.nf hz hf (pv 3)) pa_nil)))))))
     (ClausesOk.cons (ClauseOk.named (i := 3) sc_law_told.nd rfl rfl ⟨rfl, by decide, Or.inl T.InvalidKinds.gC⟩ (fun a oe cls d pn hz hf => (pss_one (ps_ret (pe_tup (pa_cons pe_str (pa_cons (pe_xf T.InvalidKinds.xf T.InvalidKinds.nf hz hf (pv 3)) pa_nil)))))))
     (ClausesOk.cons (ClauseOk.named (i := 3) sc_law_told.nd rfl rfl ⟨rfl, by decide, Or.inl T.InvalidSizes.gC⟩ (fun a oe cls d pn hz hf => (pss_one (ps_ret (pe_tup (pa_cons pe_str (pa_cons (pe_xf T.InvalidSizes.xf T.InvalidSizes.nf hz hf (pv 3)) pa_nil)))))))
     (ClausesOk.cons (ClauseOk.named (i := 3) sc_law_told.nd rfl rfl ⟨rfl, by decide, Or.inl T.InvalidRank.gC⟩ (fun a oe cls d pn hz hf => (pss_one (ps_ret (pe_tup (pa_cons pe_str (pa_cons (pe_xf T.InvalidRank.xf T.InvalidRank.nf hz hf (pv 3)) pa_nil)))))))
     (ClausesOk.cons (ClauseOk.named (i := 3) sc_law_told.nd rfl rfl ⟨rfl, by decide, Or.inl T.InvalidRounds.gC⟩ (fun a oe cls d pn hz hf => (pss_one (ps_ret (pe_tup (pa_cons pe_str (pa_cons (pe_xf T.InvalidRounds.xf T.InvalidRounds.nf hz hf (pv 3)) pa_nil)))))))
     (ClausesOk.cons (ClauseOk.bare ⟨rfl, by decide, Or.inl T.TalkError_gC⟩ (fun a oe cls d pn hz hf => (pss_one (ps_ret (pe_tup (pa_cons pe_str (pa_cons pe_non pa_nil)))))))
     ClausesOk.nil)))))))), ?_⟩
  refine ⟨_, rfl, _, rfl, _, rfl, kind, named, p, xs, ds, n, ok, rfl, hL, r, hn, ar, fun c v H1 e1 hv => ⟨two_le, fun t ht => q1 c v t _ (e1.trans (Ex.new ht)) (hv.ex (Ex.new ht)) upd_same⟩, fun c x hx d H1 e1 hd => ?_, fun c x hx d H1 e1 hd => ?_, fun j c x hx d H1 e1 hd => ?_, fun c x hx d H1 e1 hd => ?_, fun c x hx d H1 e1 hd => ?_⟩
  · exact ⟨true, T.eNN, fun _ u hu => ⟨_, rfl, rfl, rfl, d, _, _, rfl, hd, rfl, two_le, fun t ht => q2 _ _ x c hx t _ (e1.trans (Ex.new ht)) upd_same⟩, fun z => nomatch z⟩
  · exact ⟨false, T.eKN, (fun z => nomatch z), fun _ => ⟨true, T.eKK, fun _ u hu => ⟨_, rfl, rfl, rfl, d, _, _, rfl, hd, rfl, two_le, fun t ht => q2 _ _ x c hx t _ (e1.trans (Ex.new ht)) upd_same⟩, fun z => nomatch z⟩⟩
  · exact ⟨false, T.eSN, (fun z => nomatch z), fun _ => ⟨false, T.eSK, (fun z => nomatch z), fun _ => ⟨true, T.eSS, fun _ u hu => ⟨_, rfl, rfl, rfl, d, _, _, rfl, hd, rfl, two_le, fun t ht => q2 _ _ x c hx t _ (e1.trans (Ex.new ht)) upd_same⟩, fun z => nomatch z⟩⟩⟩
  · exact ⟨false, T.eRN, (fun z => nomatch z), fun _ => ⟨false, T.eRK, (fun z => nomatch z), fun _ => ⟨false, T.eRS, (fun z => nomatch z), fun _ => ⟨true, T.eRR, fun _ u hu => ⟨_, rfl, rfl, rfl, d, _, _, rfl, hd, rfl, two_le, fun t ht => q2 _ _ x c hx t _ (e1.trans (Ex.new ht)) upd_same⟩, fun z => nomatch z⟩⟩⟩⟩
  · exact ⟨false, T.eON, (fun z => nomatch z), fun _ => ⟨false, T.eOK, (fun z => nomatch z), fun _ => ⟨false, T.eOS, (fun z => nomatch z), fun _ => ⟨false, T.eOR, (fun z => nomatch z), fun _ => ⟨true, T.eOO, fun _ u hu => ⟨_, rfl, rfl, rfl, d, _, _, rfl, hd, rfl, two_le, fun t ht => q2 _ _ x c hx t _ (e1.trans (Ex.new ht)) upd_same⟩, fun z => nomatch z⟩⟩⟩⟩⟩
end
end L2.U


set_option Elab.async false
set_option linter.all false
set_option maxRecDepth 100000
set_option maxHeartbeats 4000000
namespace L2.U
open PySem PySem.Spec PyProof.Rows Evl


section
variable {P : Program} {w : World} {K : PySem.W.Frag} {mg : Str → Option Value} {base : Heap}
def isL : PyData → Bool
  | .list _ => true
  | _ => false
/-- the copies: the very values, but of a list a new one with the same items, and more behind them -/
structure CpS (K : PySem.W.Frag) (ok : Addr → Prop) (n : Nat) (D : Addr) (H0 G : Hp) (xs : List V) (ds : List PyData) (ys : List V) (more : Nat → List V) : Prop where
  same : ∀ (k : Nat) (x : V) (d : PyData) (y : V), xs[k]? = some x → ds[k]? = some d → ys[k]? = some y → isL d = false → y = x
  list : ∀ (k : Nat) (d : PyData) (y : V), ds[k]? = some d → ys[k]? = some y → isL d = true → ∃ (l : Addr) (items : List V) (es : List PyData) (m : Nat), d = .list es ∧ n = m + 1 ∧ y = .ref l ∧ RdL K ok H0 m items es ∧ items.length ≤ 900 ∧ H0 l = none ∧ l ≠ D ∧ G l = some (.lst (items ++ more k))
  dist : ∀ (k k' : Nat) (d d' : PyData) (l : Addr), k ≠ k' → ds[k]? = some d → ds[k']? = some d' → isL d = true → isL d' = true → ys[k]? = some (.ref l) → ys[k']? = some (.ref l) → False
theorem CpS.ex {ok : Addr → Prop} {n : Nat} {D : Addr} {H0 G G' : Hp} {xs ys : List V} {ds : List PyData} {more : Nat → List V} (c : CpS K ok n D H0 G xs ds ys more) (e : Ex G G') : CpS K ok n D H0 G' xs ds ys more :=
  ⟨c.same, fun k d y h2 h3 h4 => by
    obtain ⟨l, items, es, m, p1, p2, p3, p4, p5, p6, pD, p7⟩ := c.list k d y h2 h3 h4
    exact ⟨l, items, es, m, p1, p2, p3, p4, p5, p6, pD, e _ _ p7⟩, c.dist⟩
theorem rd_isL {ok : Addr → Prop} {H : Hp} {n : Nat} {x : V} {d : PyData} (h : RdA K ok H n x d) (c : isL d = true) : ∃ (a : Addr) (items : List V) (es : List PyData) (m : Nat), x = .ref a ∧ d = .list es ∧ n = m + 1 ∧ H a = some (.lst items) ∧ RdL K ok H m items es ∧ items.length ≤ 900 := by
  rcases h with h | ⟨a, rfl, rfl, _⟩
  case inr => cases c
  cases h with
  | lst h1 ha hl hz all => exact ⟨_, _, _, _, rfl, rfl, rfl, h1, ⟨hl, all⟩, hz⟩
  | non => cases c
  | bl _ => cases c
  | int _ => cases c
  | str _ _ _ => cases c
  | tup _ _ _ _ _ => cases c
theorem rd_ty {ok : Addr → Prop} {H : Hp} {n : Nat} {x : V} {d : PyData} (h : RdA K ok H n x d) : ∃ t : String, TyX K H x (.type t) ∧ kitB t "list" = some (isL d) := by
  rcases h with h | ⟨a, rfl, rfl, _, hd⟩
  case inr => exact ⟨"dict", .base (.dK hd), by show kitB "dict" "list" = some false; decide +kernel⟩
  cases h with
  | lst h1 ha hl hz all => exact ⟨"list", tyL (SqL.of h1), by show kitB "list" "list" = some true; decide +kernel⟩
  | non => exact ⟨"NoneType", .base .non, by show kitB "NoneType" "list" = some false; decide +kernel⟩
  | bl b => exact ⟨"bool", .base (.bl b), by show kitB "bool" "list" = some false; decide +kernel⟩
  | int i => exact ⟨"int", .base (.int i), by show kitB "int" "list" = some false; decide +kernel⟩
  | str z _ _ => exact ⟨"str", .base (.str z), by show kitB "str" "list" = some false; decide +kernel⟩
  | tup h1 ha hl hz all => exact ⟨"tuple", tyT h1, by show kitB "tuple" "list" = some false; decide +kernel⟩
theorem CpS.rd {ok : Addr → Prop} {D : Addr} {H0 G : Hp} {n : Nat} {xs ys : List V} {ds : List PyData} (c : CpS K ok n D H0 G xs ds ys (fun _ => [])) (e : Ex H0 G) (hy : ys.length = xs.length) (r : RdLA K ok H0 n xs ds) : RdLA K (fun _ => True) G n ys ds := by
  refine ⟨by rw [hy, r.1], fun i y d hyi hd => ?_⟩
  have hi := (List.getElem?_eq_some_iff.mp hyi).1
  have hx : xs[i]? = some (xs[i]'(by omega)) := List.getElem?_eq_getElem _
  have rx := r.2 i _ d hx hd
  cases hl : isL d with
  | false => rw [c.same i _ d y hx hd hyi hl]; exact (rx.ex e).of (fun _ _ => trivial)
  | true =>
    obtain ⟨l, items, es, m, rfl, rfl, rfl, p4, p5, p6, pD, p7⟩ := c.list i d y hd hyi hl
    rw [List.append_nil] at p7
    exact .inl (.lst p7 trivial p4.1 p5 fun k z f hz hf => ((p4.2 k z f hz hf).ex e).of (fun _ _ => trivial))
theorem CpS.snoc {ok : Addr → Prop} {D : Addr} {H0 G : Hp} {n i : Nat} {xs ys : List V} {ds : List PyData} {y x : V} {d : PyData} (c : CpS K ok n D H0 G xs ds ys (fun _ => [])) (hy : ys.length = i) (hx : xs[i]? = some x) (hd : ds[i]? = some d)
    (h : (isL d = false ∧ y = x) ∨ (isL d = true ∧ ∃ (l : Addr) (items : List V) (es : List PyData) (m : Nat), d = .list es ∧ n = m + 1 ∧ y = .ref l ∧ RdL K ok H0 m items es ∧ items.length ≤ 900 ∧ H0 l = none ∧ l ≠ D ∧ G l = some (.lst items) ∧ ∀ (k : Nat) (y' : V) (d' : PyData), ys[k]? = some y' → ds[k]? = some d' → isL d' = true → y' ≠ V.ref l)) :
    CpS K ok n D H0 G xs ds (ys ++ [y]) (fun _ => []) := by
  have at_ : ∀ {k : Nat} {y' : V}, (ys ++ [y])[k]? = some y' → (k < i ∧ ys[k]? = some y') ∨ (k = i ∧ y' = y) := by
    intro k y' hk
    by_cases ck : k < ys.length
    · rw [List.getElem?_append_left ck] at hk
      exact .inl ⟨by omega, hk⟩
    · have hk1 := (List.getElem?_eq_some_iff.mp hk).1
      rw [List.length_append, List.length_singleton] at hk1
      have : k = ys.length := by omega
      subst this
      rw [List.getElem?_append_right (Nat.le_refl _), Nat.sub_self] at hk
      exact .inr ⟨hy, (Option.some.inj hk).symm⟩
  refine ⟨fun k x' d' y' h1 h2 h3 h4 => ?_, fun k d' y' h2 h3 h4 => ?_, fun k k' d1 d2 l hk h1 h2 h3 h4 h5 h6 => ?_⟩
  · rcases at_ h3 with ⟨_, h3⟩ | ⟨rfl, rfl⟩
    · exact c.same k x' d' y' h1 h2 h3 h4
    · rw [hx] at h1; rw [hd] at h2
      cases h1; cases h2
      rcases h with ⟨_, h⟩ | ⟨h, _⟩
      · exact h
      · rw [h4] at h; cases h
  · rcases at_ h3 with ⟨_, h3⟩ | ⟨rfl, rfl⟩
    · exact c.list k d' y' h2 h3 h4
    · rw [hd] at h2
      cases h2
      rcases h with ⟨h, _⟩ | ⟨_, l, items, es, m, p1, p2, p3, p4, p5, p6, pD, p7, _⟩
      · rw [h4] at h; cases h
      · exact ⟨l, items, es, m, p1, p2, p3, p4, p5, p6, pD, by rw [List.append_nil]; exact p7⟩
  · have use : ∀ {a b : Nat} {da db : PyData}, a ≠ b → ds[a]? = some da → ds[b]? = some db → isL da = true → isL db = true → a < i → ys[a]? = some (.ref l) → b = i → y = .ref l → False := by
      intro a b da db _ ha hb la lb hai hya hbi hyl
      subst hbi
      rw [hd] at hb
      cases hb
      rcases h with ⟨h, _⟩ | ⟨_, l', items, es, m, p1, p2, p3, p4, p5, p6, pD, p7, p8⟩
      · rw [lb] at h; cases h
      · rw [hyl] at p3
        cases p3
        exact p8 a _ _ hya ha la rfl
    rcases at_ h5 with ⟨k1, h5⟩ | ⟨k1, h5⟩ <;> rcases at_ h6 with ⟨k2, h6⟩ | ⟨k2, h6⟩
    · exact c.dist k k' d1 d2 l hk h1 h2 h3 h4 h5 h6
    · exact use hk h1 h2 h3 h4 k1 h5 k2 h6.symm
    · exact use (Ne.symm hk) h2 h1 h4 h3 k2 h6 k1 h5.symm
    · omega
theorem sm_pair {H : Hp} {a b : Addr} {n : Nat} {s : Str} {x y : V} (h1 : SqT K H a [.str s, x]) (h2 : SqT K H b [.str s, y]) (hs : s.length ≤ 1000) (h : Sm K H n x y) : Sm K H (n + 1) (.ref a) (.ref b) := by
  refine .tup h1 h2 rfl (by show 2 ≤ 1000; decide) fun i u v hu hv => ?_
  match i, hu, hv with
  | 0, hu, hv => cases Option.some.inj hu; cases Option.some.inj hv; exact .str s hs
  | 1, hu, hv => cases Option.some.inj hu; cases Option.some.inj hv; exact h
theorem rfd_word {kind : Int} {ds : List PyData} {w : Str} {j : Nat} (h : rfd kind ds = some (w, j)) : w.length ≤ 1000 := by
  unfold rfd at h
  repeat' split at h
  all_goals (cases h <;> decide +kernel)
theorem Arity.len {kind : Int} {n : Nat} (h : Arity kind n) : n ≤ 3 := by unfold Arity at h; omega
theorem in_three {H : Hp} {i a b c : Int} {l : Addr} {Q : VK} (h : H l = some (.lst [.int a, .int b, .int c])) (q : Q (.bl (decide (i = a ∨ i = b ∨ i = c))) H) : rIn K false (.int i) (.ref l) H Q := by
  refine ⟨l, [a, b, c].map V.int, rfl, .inl (SqL.of h), rfl, flat_ints, ?_⟩
  rw [if_neg (by decide), inV_ints]
  have : decide (i ∈ [a, b, c]) = decide (i = a ∨ i = b ∨ i = c) := decide_eq_decide.mpr (by simp)
  rw [this]
  exact q
def spRight (K : PySem.W.Frag) : Sp := fun vs H Q _ => ∃ (kind named : Int) (vt : Addr) (xs : List V) (ds : List PyData) (n : Nat) (ok : Addr → Prop), vs = [.int kind, .int named, .ref vt] ∧ SqT K H vt xs ∧ RdLA K ok H n xs ds ∧ n ≤ 5 ∧ Arity kind ds.length ∧
  ∀ H', Ex H H' → Q (.bl true) H'
theorem ok_law_right (T : TK K mg) : FnOk P w K mg base CX0 10 T.law_right.a T.law_right.fd ["kind", "named", "values"] (spRight K) := by
  refine T.law_right.F.ok sc_law_right (fun vs H Q E h => ?_) (fun cdv A outer s H vs Q E hr h => ?_)
  · obtain ⟨kind, named, vt, xs, ds, n, ok, rfl, _⟩ := h; rfl
  obtain ⟨kind, named, vt, xs, ds, n, ok, rfl, hvt, rd, hn, ar, q⟩ := h
  refine ⟨_, (pss_cons (ps_setLc (i := 4) (own := [("one", 3)]) (g := gName 3) (by rfl) sc_law_right.nd rfl rfl (sw_true rfl rfl rfl (by decide +kernel)) (kpit K (pv 2)) (blkOk_by (own := [("one", 3)]) (N := ["kind", "named", "values", "one", "passed", "told", "refused"]) (sc := defScope s_law_right) (by decide +kernel)) (fun _ _ _ _ _ => (pg_name (i := 3) sc_law_right.nd rfl (Or.inl rfl))) (fun _ _ _ _ _ => pts_nil) (fun _ _ _ _ _ => (pe_ifExp (pt_val (pe_callB (kisi K) (by rfl) T.z_isinstance (by decide +kernel) (pa_cons (pv 3) (pa_cons (pe_bltn (v := .ty "list") rfl T.z_list (by decide +kernel) rfl) pa_nil)))) (pe_callTy (klist K) (by rfl) T.z_list (by decide +kernel) (pa_cons (pv 3) pa_nil)) (pv 3))))
    (pss_cons (ps_par (i := 5) (j := 6) (by rfl) sc_law_right.nd rfl rfl (by decide) rfl rfl (pa_cons (pe_call (ok_law_told T) (hr.mono (by decide)) rfl T.law_told.m T.law_told.F.kp T.law_told.b .nil pass0 (pa_cons (pv 0) (pa_cons (pv 1) (pa_cons (pv 4) pa_nil)))) (pa_cons (pe_call (ok_law_refused T) (hr.mono (by decide)) rfl T.law_refused.m T.law_refused.F.kp T.law_refused.b .nil pass0 (pa_cons (pv 0) (pa_cons (pv 2) pa_nil))) pa_nil)) (by rfl))
    (pss_cons (ps_if (pt_not (pt_val (pe_call (ok_law_same T.toTA1) (hr.mono (by decide)) rfl T.law_same.m T.law_same.F.kp T.law_same.b .nil pass0 (pa_cons (pv 4) (pa_cons (pe_callTy (klist K) (by rfl) T.z_list (by decide +kernel) (pa_cons (pv 2) pa_nil)) pa_nil))))) (pss_one (ps_ret pe_bl)) pss_nil)
    (pss_cons (ps_if (pt_cmpR op_isN (pv 6) pe_non (nomark _)) (pss_one (ps_ret (pe_and (pe_cmpR op_eq (pe_ix (kixt K) (pv 5) pe_int (fun _ _ => rfl)) pe_str (nomark _)) (pe_one (pe_ifExp (pt_cmpR (kin K) (pv 0) (pe_lst (pa_cons pe_int (pa_cons pe_int (pa_cons pe_int pa_nil)))) (by rfl)) (pe_callB (kisi K) (by rfl) T.z_isinstance (by decide +kernel) (pa_cons (pe_ix (kixt K) (pv 5) pe_int (fun _ _ => rfl)) (pa_cons (pe_bltn (v := .ty "tuple") rfl T.z_tuple (by decide +kernel) rfl) pa_nil))) (pe_call (ok_law_is_between T) (hr.mono (by decide)) rfl T.law_is_between.m T.law_is_between.F.kp T.law_is_between.b .nil pass0 (pa_cons (pe_ix (kixt K) (pv 5) pe_int (fun _ _ => rfl)) (pa_cons pe_int (pa_cons (pe_op op_pow pe_int pe_int) pa_nil))))))))) pss_nil)
    (pss_cons (ps_if (pt_not (pt_val (pe_call (ok_law_same T.toTA1) (hr.mono (by decide)) rfl T.law_same.m T.law_same.F.kp T.law_same.b .nil pass0 (pa_cons (pv 5) (pa_cons (pv 6) pa_nil))))) (pss_one (ps_ret pe_bl)) pss_nil)
    (pss_cons (ps_for PassesOwn.never rfl (kpil K (pv 4)) (pg_name (i := 3) sc_law_right.nd rfl (Or.inl rfl)) (pss_one (ps_if (pt_val (pe_callB (kisi K) (by rfl) T.z_isinstance (by decide +kernel) (pa_cons (pv 3) (pa_cons (pe_bltn (v := .ty "list") rfl T.z_list (by decide +kernel) rfl) pa_nil)))) (pss_one (ps_expr (pe_bm PySem.F.plainAttrs_list PySem.F.slot_list_append PySem.F.type_list_append mt_append (pv 3) (pa_cons pe_int pa_nil)))) pss_nil)))
    (pss_one (ps_ret (pe_or (pe_not (pe_callB (kisi K) (by rfl) T.z_isinstance (by decide +kernel) (pa_cons (pe_ix (kixt K) (pv 6) pe_int (fun _ _ => rfl)) (pa_cons (pe_bltn (v := .ty "list") rfl T.z_list (by decide +kernel) rfl) pa_nil)))) (pe_one (pe_call (ok_law_same T.toTA1) (hr.mono (by decide)) rfl T.law_same.m T.law_same.F.kp T.law_same.b .nil pass0 (pa_cons (pe_ix (kixt K) (pv 5) pe_int (fun _ _ => rfl)) (pa_cons (pe_op op_cat (pe_ix (kixt K) (pv 6) pe_int (fun _ _ => rfl)) (pe_lst (pa_cons pe_int pa_nil))) pa_nil))))))))))))), ?_⟩
  have hlen : xs.length ≤ 3 := by rw [rd.1]; exact ar.len
  refine ⟨_, rfl, vt, rfl, ⟨_, hvt⟩, fun D hD => lc_tup (xs := xs) (fun i H' => Ex H H' ∧ ∃ ys, H' D = some (.lst ys) ∧ ys.length = i ∧ ∀ G, But D H' G → CpS K ok n D H G xs ds ys (fun _ => [])) ⟨Ex.new hD, [], upd_same, rfl, fun G _ => ⟨fun k x d y _ _ h => (by cases h), fun k d y _ h => (by cases h), fun k k' d d' l _ _ _ _ _ h => (by cases h)⟩⟩
    (fun i H' _ p => ex_t p.1 hvt) ?_ ?_⟩
  · rintro i x H' hx ⟨e, ys, hy, hl, hc⟩
    have hi := (List.getElem?_eq_some_iff.mp hx).1
    have hd : ds[i]? = some (ds[i]'(by have := rd.1; omega)) := List.getElem?_eq_getElem _
    have rx := rd.2 i _ _ hx hd
    have fin : ∀ (z : V) (H2 : Hp), Ex H' H2 → (∀ G, But D H2 G → CpS K ok n D H G xs ds (ys ++ [z]) (fun _ => [])) → ∃ acc, H2 D = some (.lst acc) ∧ acc.length < sizeLine ∧
        (Ex H (upd H2 D (.lst (acc ++ [z]))) ∧ ∃ ys, (upd H2 D (.lst (acc ++ [z]))) D = some (.lst ys) ∧ ys.length = i + 1 ∧ ∀ G, But D (upd H2 D (.lst (acc ++ [z]))) G → CpS K ok n D H G xs ds ys (fun _ => [])) := by
      intro z H2 e2 hz
      exact ⟨ys, e2 _ _ hy, small1000 (by omega), (e.trans e2).mut hD, ys ++ [z], upd_same, by rw [List.length_append, hl]; rfl, fun G k => hz G (But.upd.trans k)⟩
    have c0 := hc H' (But.of (Ex.refl _))
    refine ⟨rfl, ?_⟩
    show tIf (tB (tCB (rIsi K) (tCons (tVar 3) (tCons (tC (.ty "list")) tNil)))) (tCB (rListOf K) (tCons (tVar 3) tNil)) (tVar 3) _ H' _
    cases hdL : isL (ds[i]'(by have := rd.1; omega)) with
    | false =>
      obtain ⟨ty, hty, kb⟩ := rd_ty (rx.ex e)
      rw [hdL] at kb
      exact ⟨_, rfl, _, _, _, _, false, rfl, .ty _, hty, kit_ty kb, ⟨_, rfl, iteF ⟨_, rfl, fin _ H' (Ex.refl _) fun G k => (hc G k).snoc hl hx hd (.inl ⟨hdL, rfl⟩)⟩⟩⟩
    | true =>
      obtain ⟨a, items, es, m, ex, ed, en, ha, r2, hz⟩ := rd_isL rx hdL
      rw [ex]
      have ha' := e _ _ ha
      refine ⟨_, rfl, _, _, _, _, true, rfl, .ty _, tyL (SqL.of ha'), kit_ty (by decide +kernel), ⟨_, rfl, iteT ⟨_, rfl, a, _, rfl, .inl (SqL.of ha'), fun l hl2 => fin _ _ (Ex.new hl2) (fun G k => ?_)⟩⟩⟩
      have nl : l ≠ D := ne_new hl2 hy
      refine (hc G (But.pre (Ex.new hl2) k)).snoc hl hx hd (.inr ⟨hdL, l, items, es, m, ed, en, rfl, r2, hz, fresh_back e hl2, nl, k _ _ nl upd_same, fun k' y' d' hy' hd' hdL' ee => ?_⟩)
      obtain ⟨l', items', es', m', _, _, q3, _, _, _, _, q7⟩ := c0.list k' d' y' hd' hy' hdL'
      rw [ee] at q3
      cases q3
      rw [hl2] at q7
      cases q7
  · rintro H1 ⟨e1, ys, hy, hl, hc0⟩
    have c1 := hc0 H1 (But.of (Ex.refl _))
    have hvt1 := ex_t e1 hvt
    have ry := c1.rd e1 hl rd
    have same : ∀ {H2 : Hp} (e2 : Ex H1 H2) (l : Addr) (hl2 : H2 l = none), Sm K (upd H2 l (.lst xs)) 8 (.ref D) (.ref l) := fun {H2} e2 l hl2 => by
      have e3 := e2.trans (Ex.new (o := .lst xs) hl2)
      refine .lst (SqL.of (e3 _ _ hy)) (SqL.of upd_same) hl (by omega) fun i y x h1 h2 => ?_
      have hi := (List.getElem?_eq_some_iff.mp h1).1
      have hd : ds[i]? = some (ds[i]'(by have := rd.1; omega)) := List.getElem?_eq_getElem _
      exact (((ry.2 i y _ h1 hd).ex e3).sm ((rd.2 i x _ h2 hd).ex (e1.trans e3))).le (by omega)
    refine ⟨_, rfl, _, rfl, _, rfl, kind, named, D, ys, ds, n, (fun _ => True), rfl, SqL.of hy, ry, by omega, ar, fun c v t H2 e2 hv ht => ?_, fun w j y c hyj t H2 e2 ht => ?_⟩
    · have hv2 := ex_t e2 hvt1
      refine ⟨_, rfl, _, rfl, kind, vt, xs, ds, n, ok, rfl, hv2, rd.ex (e1.trans e2), by omega, ar, fun _ H3 e3 => ?_, fun w j x c2 => (by rw [c] at c2; cases c2)⟩
      have hv3 := ex_t e3 hv2
      have ht3 := e3 _ _ ht
      refine ⟨_, _, rfl, _, rfl, _, rfl, vt, _, rfl, .inr hv3, fun l hl2 => ⟨_, _, rfl, same (e2.trans e3) l hl2, fun H4 e4 => ⟨true, rfl, iteF ?_⟩⟩⟩
      have e34 := (Ex.new hl2).trans e4
      have ht4 := e34 _ _ ht3
      have x4 := (e1.trans (e2.trans e3)).trans e34
      have res := hv.ex (e3.trans e34)
      refine ⟨_, rfl, rfl, _, rfl, iteT ?_⟩
      refine ⟨_, rfl, _, _, _, _, rfl, rfl, SqT.of ht4, rfl, rfl, ?_⟩
      rw [decide_eq_true (rfl : V.str "done" = V.str "done")]
      refine ⟨true, rfl, iteT ?_⟩
      refine ⟨_, rfl, (by show 3 ≤ sizeLine; decide), fun l3 hl3 => ?_⟩
      have x5 := x4.trans (Ex.new (o := .lst [.int 1, .int 4, .int 6]) hl3)
      have ht5 := (Ex.new (o := .lst [.int 1, .int 4, .int 6]) hl3) _ _ ht4
      refine in_three upd_same ⟨_, rfl, ?_⟩
      unfold Res at res
      by_cases ck : kind = 1 ∨ kind = 4 ∨ kind = 6
      · rw [if_pos ck] at res
        obtain ⟨pp, zs, rfl, hpp⟩ := res
        rw [decide_eq_true ck]
        exact iteT ⟨_, rfl, _, _, _, _, rfl, rfl, SqT.of ht5, rfl, _, _, _, _, true, rfl, .ty _, tyT (SqT.of ((Ex.new hl3) _ _ hpp)), kit_ty (by decide +kernel), q _ x5⟩
      · rw [if_neg ck] at res
        obtain ⟨rr, rfl, r0, r1⟩ := res
        rw [decide_eq_false ck]
        refine iteF ⟨_, rfl, _, _, _, _, rfl, rfl, SqT.of ht5, rfl, _, _, rfl, rfl, ⟨by decide, by decide, by decide⟩, _, .int rr, 0, (fun _ => True), _, _, rfl, .inl (.int rr), ?_⟩
        have e : betwD 0 (10 ^ (20 : Int).toNat) (.int rr) = true := decide_eq_true ⟨r0, r1⟩
        rw [e]
        exact q _ x5
    · have hv2 := ex_t e2 hvt1
      refine ⟨_, rfl, _, rfl, kind, vt, xs, ds, n, ok, rfl, hv2, rd.ex (e1.trans e2), by omega, ar, fun c2 => (by rw [c] at c2; cases c2), fun w' j' x c2 hxj TD H2' e2' htd => ?_⟩
      rw [c] at c2
      obtain ⟨rfl, rfl⟩ : w = w' ∧ j = j' := by cases c2; exact ⟨rfl, rfl⟩
      have hv2' := ex_t e2' hv2
      have ht' := e2' _ _ ht
      refine ⟨_, _, rfl, _, rfl, _, rfl, vt, _, rfl, .inr hv2', fun l hl2 => ⟨_, _, rfl, same (e2.trans e2') l hl2, fun H3 e3 => ⟨true, rfl, iteF ?_⟩⟩⟩
      have e23 := e2'.trans ((Ex.new hl2).trans e3)
      have ht3 := e23 _ _ ht
      have htd3 := ((Ex.new hl2).trans e3) _ _ htd
      have hj := (List.getElem?_eq_some_iff.mp hxj).1
      have hdj : ds[j]? = some (ds[j]'(by have := rd.1; omega)) := List.getElem?_eq_getElem _
      have rxj := rd.2 j x _ hxj hdj
      have ryj := ry.2 j y _ hyj hdj
      have smj : Sm K H3 7 y x := ((ryj.ex (e2.trans e23)).sm (rxj.ex (e1.trans (e2.trans e23)))).le (by omega)
      refine ⟨_, rfl, rfl, _, rfl, iteF ⟨_, rfl, _, rfl, _, _, rfl, sm_pair (SqT.of ht3) (SqT.of htd3) (rfd_word c) smj, fun H4 e4 => ⟨true, rfl, iteF ?_⟩⟩⟩
      have e14 := e2.trans (e23.trans e4)
      have ht4 := e4 _ _ ht3
      have htd4 := e4 _ _ htd3
      -- 7 behind each list
      refine ⟨_, rfl, D, rfl, ⟨_, SqL.of (e14 _ _ hy)⟩, for_list (xs := ys) (fun i σ H' => Ex H H' ∧ H' D = some (.lst ys) ∧ CpS K ok n D H H' xs ds ys (fun k => if k < i then [.int 7] else []) ∧ (∀ a zs, H4 a = some (.tup zs) → H' a = some (.tup zs)) ∧ ∃ x4, σ = [some (.int kind), some (.int named), some (.ref vt), x4, some (.ref D), some (.ref t), some (.ref TD)])
        ⟨e1.trans e14, e14 _ _ hy, ⟨c1.same, fun k d y h2 h3 h4 => (c1.ex e14).list k d y h2 h3 h4, c1.dist⟩, fun a zs h => h, _, rfl⟩ (fun i σ H' _ p => SqL.of p.2.1) ?_ ?_⟩
      · rintro i y σ H' hyi ⟨e5, hD5, cp, tu, x4, rfl⟩
        have hi := (List.getElem?_eq_some_iff.mp hyi).1
        have hx : xs[i]? = some (xs[i]'(by omega)) := List.getElem?_eq_getElem _
        have hd : ds[i]? = some (ds[i]'(by have := rd.1; omega)) := List.getElem?_eq_getElem _
        have rx := rd.2 i _ _ hx hd
        cases hdL : isL (ds[i]'(by have := rd.1; omega)) with
        | false =>
          have ey := cp.same i _ _ y hx hd hyi hdL
          obtain ⟨ty, hty, kb⟩ := rd_ty (rx.ex e5)
          rw [hdL] at kb
          rw [← ey] at hty
          refine ⟨_, rfl, _, _, _, _, false, rfl, .ty _, hty, kit_ty kb, ⟨_, rfl, iteF ⟨e5, hD5, ⟨cp.same, fun k d' y' h2 h3 h4 => ?_, cp.dist⟩, tu, _, rfl⟩⟩⟩
          obtain ⟨l', items', es', m', p1, p2, p3, p4, p5, p6, pD, p7⟩ := cp.list k d' y' h2 h3 h4
          have hk : k ≠ i := by rintro rfl; rw [hd] at h2; cases h2; rw [hdL] at h4; cases h4
          refine ⟨l', items', es', m', p1, p2, p3, p4, p5, p6, pD, ?_⟩
          rw [p7]
          by_cases c : k < i
          · rw [if_pos c, if_pos (by omega)]
          · rw [if_neg c, if_neg (by omega)]
        | true =>
          obtain ⟨l', items', es', m', p1, p2, rfl, p4, p5, p6, pD, p7⟩ := cp.list i _ y hd hyi hdL
          rw [if_neg (Nat.lt_irrefl i), List.append_nil] at p7
          refine ⟨_, rfl, _, _, _, _, true, rfl, .ty _, tyL (SqL.of p7), kit_ty (by decide +kernel), ⟨_, rfl, iteT ?_⟩⟩
          refine ⟨_, rfl, .inl ⟨rfl, _, SqL.of p7⟩, l', _, _, rfl, rfl, p7, small1000 (by omega), ?_⟩
          have kk : But l' H' (upd H' l' (.lst (items' ++ [V.int 7]))) := But.upd
          refine ⟨e5.mut p6, kk _ _ pD.symm hD5, ⟨cp.same, fun k d' y' h2 h3 h4 => ?_, cp.dist⟩, fun a zs h => kk _ _ (ne_of (tu a zs h) p7 (by intro z; cases z)) (tu a zs h), _, rfl⟩
          obtain ⟨l2, items2, es2, m2, r1, r2, r3, r4, r5, r6, rD, r7⟩ := cp.list k d' y' h2 h3 h4
          by_cases hk : k = i
          · subst hk
            rw [hd] at h2
            cases h2
            rw [hyi] at h3
            cases h3
            cases r3
            have es_eq : es' = es2 := by rw [p1] at r1; cases r1; rfl
            rw [p7, if_neg (Nat.lt_irrefl k), List.append_nil] at r7
            have it_eq : items' = items2 := HO.lst.inj (Option.some.inj r7)
            refine ⟨l', items2, es2, m2, r1, r2, rfl, r4, r5, r6, rD, ?_⟩
            rw [upd_same, it_eq, if_pos (Nat.lt_succ_self k)]
          · refine ⟨l2, items2, es2, m2, r1, r2, r3, r4, r5, r6, rD, ?_⟩
            have nl : l2 ≠ l' := by
              rintro rfl
              rw [r3] at h3
              exact cp.dist k i d' _ l2 hk h2 hd h4 hdL h3 hyi
            rw [kk _ _ nl r7]
            by_cases c : k < i
            · rw [if_pos c, if_pos (by omega)]
            · rw [if_neg c, if_neg (by omega)]
      · rintro σ H5 ⟨e5, hD5, cp, tu, x4, rfl⟩
        have htd5 := tu _ _ htd4
        have ht5 := tu _ _ ht4
        cases hL : isL (ds[j]'(by have := rd.1; omega)) with
        | false =>
          obtain ⟨ty, hty, kb⟩ := rd_ty (rxj.ex e5)
          rw [hL] at kb
          exact ⟨_, rfl, _, _, _, _, rfl, rfl, SqT.of htd5, rfl, _, _, _, _, false, rfl, .ty _, hty, kit_ty kb, ⟨_, rfl, _, rfl, iteT (q _ e5)⟩⟩
        | true =>
          obtain ⟨a, items0, es0, m0, rfl, ed0, en0, ha, r0, hz0⟩ := rd_isL rxj hL
          obtain ⟨l', items', es', m', p1, p2, rfl, p4, p5, p6, pD, p7⟩ := cp.list j _ y hdj hyj hL
          rw [if_pos (by omega)] at p7
          have ha5 := e5 _ _ ha
          have es_eq : es' = es0 := by rw [ed0] at p1; cases p1; rfl
          subst es_eq
          have m_eq : m' = m0 := by omega
          subst m_eq
          refine ⟨_, rfl, _, _, _, _, rfl, rfl, SqT.of htd5, rfl, _, _, _, _, true, rfl, .ty _, tyL (SqL.of ha5), kit_ty (by decide +kernel), ⟨_, rfl, _, rfl, iteF ?_⟩⟩
          refine ⟨_, rfl, _, _, _, _, rfl, rfl, SqT.of ht5, rfl, _, rfl, _, _, _, _, rfl, rfl, SqT.of htd5, rfl, (by show 1 ≤ sizeLine; decide), fun p hp => ?_⟩
          have f1 : Ex H5 (upd H5 p (.lst [.int 7])) := Ex.new hp
          refine ⟨a, p, _, _, rfl, rfl, f1 _ _ ha5, upd_same, Nat.le_of_lt (small1000 (show items0.length + 1 ≤ _ by omega)), fun p2 hp2 => ?_⟩
          have f2 := f1.trans (Ex.new (o := .lst (items0 ++ [.int 7])) hp2)
          have hlen2 : items'.length = items0.length := by rw [p4.1, r0.1]
          refine ⟨_, _, rfl, .lst (SqL.of (f2 _ _ p7)) (SqL.of upd_same) (by rw [List.length_append, List.length_append, hlen2]) (by rw [List.length_append]; show _ + 1 ≤ 1000; omega) (fun i u v hu hv => ?_), fun H6 e6 => q _ (e5.trans (f2.trans e6))⟩
          by_cases ci : i < items'.length
          · rw [List.getElem?_append_left ci] at hu
            rw [List.getElem?_append_left (by omega)] at hv
            have he : es'[i]? = some (es'[i]'(by have := p4.1; omega)) := List.getElem?_eq_getElem _
            exact (((p4.2 i u _ hu he).ex (e5.trans f2)).sm ((r0.2 i v _ hv he).ex (e5.trans f2))).le (by omega)
          · have hi2 := (List.getElem?_eq_some_iff.mp hu).1
            rw [List.length_append, List.length_singleton] at hi2
            have ei : i = items'.length := by omega
            subst ei
            rw [List.getElem?_append_right (Nat.le_refl _), Nat.sub_self] at hu
            rw [hlen2, List.getElem?_append_right (Nat.le_refl _), Nat.sub_self] at hv
            cases Option.some.inj hu
            cases Option.some.inj hv
            exact .int 7

end
end L2.U


set_option Elab.async false
set_option linter.all false
set_option maxRecDepth 100000
set_option maxHeartbeats 4000000
namespace L2.U
open PySem PySem.Spec PyProof.Rows Evl


section
variable {P : Program} {w : World} {K : PySem.W.Frag} {mg : Str → Option Value} {base : Heap}
theorem RdLA.nil {ok : Addr → Prop} {H : Hp} {n : Nat} : RdLA K ok H n [] [] := ⟨rfl, fun i x d h _ => by cases h⟩
theorem RdLA.cons {ok : Addr → Prop} {H : Hp} {n : Nat} {x : V} {d : PyData} {xs : List V} {ds : List PyData} (h : RdA K ok H n x d) (r : RdLA K ok H n xs ds) : RdLA K ok H n (x :: xs) (d :: ds) := by
  refine ⟨by rw [List.length_cons, List.length_cons, r.1], fun i y e hy he => ?_⟩
  cases i with
  | zero => cases Option.some.inj hy; cases Option.some.inj he; exact h
  | succ i => exact r.2 i y e hy he
theorem RdLA.get {ok : Addr → Prop} {H : Hp} {n : Nat} {xs : List V} {ds : List PyData} (r : RdLA K ok H n xs ds) {i : Int} (h0 : 0 ≤ i) (h : i < (xs.length : Int)) : ∃ x d, atI xs i = some x ∧ RdA K ok H n x d := by
  obtain ⟨v, hv, hg⟩ := at_get h0 h
  have hd : ds[i.toNat]? = some (ds[i.toNat]'(by have := r.1; omega)) := List.getElem?_eq_getElem _
  exact ⟨v, _, hv, r.2 _ _ _ hg hd⟩
theorem RdL.nil {ok : Addr → Prop} {H : Hp} {n : Nat} : RdL K ok H n [] [] := ⟨rfl, fun i x d h _ => by cases h⟩
theorem RdL.cons {ok : Addr → Prop} {H : Hp} {n : Nat} {x : V} {d : PyData} {xs : List V} {ds : List PyData} (h : Rd K ok H n x d) (r : RdL K ok H n xs ds) : RdL K ok H n (x :: xs) (d :: ds) := by
  refine ⟨by rw [List.length_cons, List.length_cons, r.1], fun i y e hy he => ?_⟩
  cases i with
  | zero => cases Option.some.inj hy; cases Option.some.inj he; exact h
  | succ i => exact r.2 i y e hy he
theorem RdL.append {ok : Addr → Prop} {H : Hp} {n : Nat} {xs ys : List V} {ds es : List PyData} (h1 : RdL K ok H n xs ds) (h2 : RdL K ok H n ys es) : RdL K ok H n (xs ++ ys) (ds ++ es) := by
  refine ⟨by rw [List.length_append, List.length_append, h1.1, h2.1], fun i x d hx hd => ?_⟩
  by_cases c : i < xs.length
  · rw [List.getElem?_append_left c] at hx
    rw [List.getElem?_append_left (by rw [← h1.1]; exact c)] at hd
    exact h1.2 i x d hx hd
  · rw [List.getElem?_append_right (by omega)] at hx
    rw [List.getElem?_append_right (by rw [← h1.1]; omega), ← h1.1] at hd
    exact h2.2 _ x d hx hd
theorem Rd.up {ok : Addr → Prop} {H : Hp} {n : Nat} {x : V} {d : PyData} (h : Rd K ok H n x d) : RdA K ok H n x d := .inl h
theorem RdA.le {ok : Addr → Prop} {H : Hp} {n m : Nat} {x : V} {d : PyData} (h : RdA K ok H n x d) (l : n ≤ m) : RdA K ok H m x d := by
  rcases h with h | h
  · exact .inl (h.le l)
  · exact .inr h
/-- all of them hold data -/
def Ds (K : PySem.W.Frag) (ok : Addr → Prop) (H : Hp) (n : Nat) (xs : List V) : Prop := ∃ ds, RdL K ok H n xs ds
theorem Ds.nil {ok : Addr → Prop} {H : Hp} {n : Nat} : Ds K ok H n [] := ⟨[], RdL.nil⟩
theorem Ds.one {ok : Addr → Prop} {H : Hp} {n : Nat} {x : V} {d : PyData} (h : Rd K ok H n x d) : Ds K ok H n [x] := ⟨[d], RdL.cons h RdL.nil⟩
theorem Ds.app {ok : Addr → Prop} {H : Hp} {n : Nat} {xs ys : List V} (h1 : Ds K ok H n xs) (h2 : Ds K ok H n ys) : Ds K ok H n (xs ++ ys) := by
  obtain ⟨ds, h1⟩ := h1
  obtain ⟨es, h2⟩ := h2
  exact ⟨ds ++ es, h1.append h2⟩
theorem Ds.drop {ok : Addr → Prop} {H : Hp} {n k : Nat} {xs : List V} (h : Ds K ok H n xs) : Ds K ok H n (xs.drop k) := by
  obtain ⟨ds, h⟩ := h
  refine ⟨ds.drop k, by rw [List.length_drop, List.length_drop, h.1], fun i x d hx hd => ?_⟩
  rw [List.getElem?_drop] at hx hd
  exact h.2 _ x d hx hd
theorem Ds.take {ok : Addr → Prop} {H : Hp} {n k : Nat} {xs : List V} (h : Ds K ok H n xs) : Ds K ok H n (xs.take k) := by
  obtain ⟨ds, h⟩ := h
  refine ⟨ds.take k, by rw [List.length_take, List.length_take, h.1], fun i x d hx hd => ?_⟩
  rw [List.getElem?_take] at hx hd
  by_cases c : i < k
  · rw [if_pos c] at hx hd; exact h.2 _ x d hx hd
  · rw [if_neg c] at hx; cases hx
theorem Ds.cut {ok : Addr → Prop} {H : Hp} {n : Nat} {xs : List V} {lo hi : Option Int} (h : Ds K ok H n xs) : Ds K ok H n (cutV xs lo hi) := by unfold cutV; exact h.drop.take
theorem cutV_len {xs : List V} {lo hi : Option Int} : (cutV xs lo hi).length ≤ xs.length := by
  unfold cutV
  rw [List.length_take, List.length_drop]
  omega
theorem Ds.ints {ok : Addr → Prop} {H : Hp} {n : Nat} (ns : List Int) : Ds K ok H n (ns.map V.int) := ⟨_, rdl_ints ns⟩
theorem Ds.ex {ok : Addr → Prop} {H H' : Hp} {n : Nat} {xs : List V} (h : Ds K ok H n xs) (e : Ex H H') : Ds K ok H' n xs := by
  obtain ⟨ds, h⟩ := h
  exact ⟨ds, RdL.ex e h⟩
theorem Ds.but {ok : Addr → Prop} {H H' : Hp} {b : Addr} {n : Nat} {xs : List V} (h : Ds K ok H n xs) (k : But b H H') (hb : ∀ a, ok a → a ≠ b) : Ds K ok H' n xs := by
  obtain ⟨ds, h⟩ := h
  exact ⟨ds, RdL.but k hb h⟩
theorem Ds.le {ok : Addr → Prop} {H : Hp} {n m : Nat} {xs : List V} (h : Ds K ok H n xs) (l : n ≤ m) : Ds K ok H m xs := by
  obtain ⟨ds, h⟩ := h
  exact ⟨ds, h.1, fun i x d hx hd => (h.2 i x d hx hd).le l⟩
theorem Ds.of {ok ok' : Addr → Prop} {H : Hp} {n : Nat} {xs : List V} (h : Ds K ok H n xs) (w : ∀ a, ok a → ok' a) : Ds K ok' H n xs := by
  obtain ⟨ds, h⟩ := h
  exact ⟨ds, h.1, fun i x d hx hd => (h.2 i x d hx hd).of w⟩
theorem Ds.lst {ok : Addr → Prop} {H : Hp} {n : Nat} {a : Addr} {xs : List V} (h : Ds K ok H n xs) (ha : H a = some (.lst xs)) (o : ok a) (l : xs.length ≤ 900) : ∃ d, Rd K ok H (n + 1) (.ref a) d := by
  obtain ⟨ds, h⟩ := h
  exact ⟨.list ds, .lst ha o h.1 l h.2⟩
theorem Ds.tup {ok : Addr → Prop} {H : Hp} {n : Nat} {a : Addr} {xs : List V} (h : Ds K ok H n xs) (ha : SqT K H a xs) (o : ok a) (l : xs.length ≤ 900) : ∃ d, Rd K ok H (n + 1) (.ref a) d := by
  obtain ⟨ds, h⟩ := h
  exact ⟨.tuple ds, .tup ha o h.1 l h.2⟩
theorem Ds.get {ok : Addr → Prop} {H : Hp} {n : Nat} {xs : List V} (h : Ds K ok H n xs) {i : Int} (h0 : 0 ≤ i) (hi : i < (xs.length : Int)) : ∃ x d, atI xs i = some x ∧ Rd K ok H n x d := by
  obtain ⟨ds, h⟩ := h
  obtain ⟨v, hv, hg⟩ := at_get h0 hi
  have hd : ds[i.toNat]? = some (ds[i.toNat]'(by have := h.1; omega)) := List.getElem?_eq_getElem _
  exact ⟨v, _, hv, h.2 _ _ _ hg hd⟩
section
variable {σ : L2.St} {H : Hp} {ta tb : TE} {xs ys : List V}
theorem el_catL (ha : EvL ta σ H xs) (hb : EvL tb σ H ys) (hz : xs.length + ys.length ≤ 100000) : EvL (tOp rCat ta tb) σ H (xs ++ ys) := fun H1 e Q q =>
  ha H1 e _ fun p H2 hp e2 h2 => hb H2 (e.trans e2) _ fun p' H3 hp' e3 h3 => ⟨p, p', xs, ys, rfl, rfl, e3 _ _ h2, h3, sz_of hz, fun l hl => q l _ (fresh_back (e2.trans e3) hl) ((e2.trans e3).trans (Ex.new hl)) upd_same⟩
theorem el_repL {n : Int} (ha : EvL ta σ H xs) (hb : ∀ H1, Ex H H1 → Ev tb σ H1 (.int n)) (h1 : -(2 ^ 63) ≤ n) (h2 : n < 2 ^ 63) (hz : xs.length * n.toNat ≤ 100000) : EvL (tOp rRep ta tb) σ H (List.replicate n.toNat xs).flatten := fun H1 e Q q =>
  ha H1 e _ fun p H2 hp e2 h3 => hb H2 (e.trans e2) H2 (Ex.refl _) _ fun H3 e3 => ⟨p, n, xs, rfl, rfl, e3 _ _ h3, h1, h2, sz_of hz, fun l hl => q l _ (fresh_back (e2.trans e3) hl) ((e2.trans e3).trans (Ex.new hl)) upd_same⟩
/-- items[:i] + [x] + items[j:] -/
theorem el_mid {a : Addr} {i j : Int} {te tf tg : TE} {x : V} (h : Ev ta σ H (.ref a)) (hs : SqL K H a xs) (h1 : Ev te σ H (.int i)) (h2 : Ev tf σ H x) (h3 : Ev tg σ H (.int j)) (hl : xs.length ≤ 1000) :
    EvL (tOp rCat (tOp rCat (tSl (rSlL K) ta tNoPart (tPart te)) (tLst (tCons tf tNil))) (tSl (rSlL K) ta (tPart tg) tNoPart)) σ H (cutV xs none (some i) ++ [x] ++ cutV xs (some j) none) := by
  have c1 := @cutV_len xs none (some i)
  have c2 := @cutV_len xs (some j) none
  refine el_catL (el_catL (el_sl h eo_none (eo_some h1) hs) (el_lst (ea_cons h2 ea_nil) (by show 1 ≤ 100000; decide)) ?_) (el_sl h (eo_some h3) eo_none hs) ?_
  · rw [List.length_singleton]; omega
  · rw [List.length_append, List.length_singleton]; omega
end
theorem mid_ds {ok : Addr → Prop} {H : Hp} {n : Nat} {xs : List V} {x : V} {d : PyData} {i j : Int} (h : Ds K ok H n xs) (hx : Rd K ok H n x d) : Ds K ok H n (cutV xs none (some i) ++ [x] ++ cutV xs (some j) none) := (h.cut.app (Ds.one hx)).app h.cut
theorem mid_len {xs : List V} {x : V} {i j : Int} : (cutV xs none (some i) ++ [x] ++ cutV xs (some j) none).length ≤ 2 * xs.length + 1 := by
  have c1 := @cutV_len xs none (some i)
  have c2 := @cutV_len xs (some j) none
  rw [List.length_append, List.length_append, List.length_singleton]
  omega
theorem but_fresh {H H' : Hp} {b f : Addr} {n m : Nat} (k : But b H H') (hb : BoxAt H b n) (hb2 : BoxAt H' b m) (h : H' f = none) : H f = none := by
  obtain ⟨o, ho⟩ := hb.some
  exact k.none ho h (hb2.ne h)
theorem box_ne {H : Hp} {b a : Addr} {n : Nat} (hb : BoxAt H b n) (h : H a = none) : a ≠ b := hb.ne h
def Fr (H : Hp) : Addr → Prop := fun a => H a = none
def spOdd (K : PySem.W.Frag) : Sp := fun vs H Q _ => ∃ (b : Addr) (n : Nat), vs = [.ref b] ∧ BoxAt H b (n + 1) ∧ ∀ x d H', RdA K (Fr H) H' 2 x d → BoxAt H' b n → But b H H' → Q x H'
theorem ok_law_odd (T : TK K mg) : FnOk P w K mg base CX0 2 T.law_odd.a T.law_odd.fd ["box"] (spOdd K) := by
  refine T.law_odd.F.ok sc_law_odd (fun vs H Q E h => ?_) (fun cdv A outer s H vs Q E hr h => ?_)
  · obtain ⟨b, n, rfl, _⟩ := h; rfl
  obtain ⟨b, n, rfl, hB, q⟩ := h
  refine ⟨_, (pss_one (ps_ret (pe_ix (kixl K) (pe_lst (pa_cons pe_non (pa_cons pe_bl (pa_cons pe_bl (pa_cons pe_str (pa_cons pe_str (pa_cons pe_dnewK (pa_cons (pe_un un_neg pe_int) (pa_cons pe_int (pa_cons (pe_op op_pow pe_int pe_int) (pa_cons (pe_tup (pa_cons pe_int (pa_cons pe_int pa_nil))) (pa_cons (pe_lst (pa_cons pe_int (pa_cons pe_int pa_nil))) (pa_cons pe_str (pa_cons (pe_tup pa_nil) (pa_cons (pe_lst pa_nil) (pa_cons pe_int (pa_cons (pe_un un_neg (pe_op op_pow pe_int pe_int)) pa_nil))))))))))))))))) (pe_call (ok_law_take T.toTA1) (hr.mono (by decide)) rfl T.law_take.m T.law_take.F.kp T.law_take.b .nil pass0 (pa_cons (pv 0) (pa_cons pe_int pa_nil))) (fun _ _ => rfl)))), ?_⟩
  refine fun p1 h1 => ⟨1, rfl, _, _, rfl, rfl, ⟨by decide, by decide, by decide⟩, two_le, fun p2 h2 => ⟨two_le, fun p3 h3 => ⟨Nat.zero_le _, fun p4 h4 => ⟨Nat.zero_le _, fun p5 h5 => ⟨_, _, rfl, rfl, ⟨by decide, by decide, by decide⟩, _, rfl, (by show 16 ≤ sizeLine; decide), fun L hL => ?_⟩⟩⟩⟩⟩
  have y1 : Ex H (upd H p1 (.dK [])) := Ex.new h1
  have u1 : upd H p1 (.dK []) p1 = some (.dK []) := upd_same
  generalize upd H p1 (.dK []) = G1 at *
  have y2 : Ex G1 (upd G1 p2 (.tup [.int 1, .int 2])) := Ex.new h2
  have u2 : upd G1 p2 (.tup [.int 1, .int 2]) p2 = some (.tup [.int 1, .int 2]) := upd_same
  generalize upd G1 p2 (.tup [.int 1, .int 2]) = G2 at *
  have y3 : Ex G2 (upd G2 p3 (.lst [.int 2, .int 1])) := Ex.new h3
  have u3 : upd G2 p3 (.lst [.int 2, .int 1]) p3 = some (.lst [.int 2, .int 1]) := upd_same
  generalize upd G2 p3 (.lst [.int 2, .int 1]) = G3 at *
  have y4 : Ex G3 (upd G3 p4 (.tup [])) := Ex.new h4
  have u4 : upd G3 p4 (.tup []) p4 = some (.tup []) := upd_same
  generalize upd G3 p4 (.tup []) = G4 at *
  have y5 : Ex G4 (upd G4 p5 (.lst [])) := Ex.new h5
  have u5 : upd G4 p5 (.lst []) p5 = some (.lst []) := upd_same
  generalize upd G4 p5 (.lst []) = G5 at *
  have z4 := y5
  have z3 := y4.trans z4
  have z2 := y3.trans z3
  have z1 := y2.trans z2
  have z0 := y1.trans z1
  have f1 : H p1 = none := h1
  have f2 : H p2 = none := fresh_back y1 h2
  have f3 : H p3 = none := fresh_back (y1.trans y2) h3
  have f4 : H p4 = none := fresh_back ((y1.trans y2).trans y3) h4
  have f5 : H p5 = none := fresh_back (((y1.trans y2).trans y3).trans y4) h5
  have rdl : ∀ G, Ex G5 G → RdLA K (Fr H) G 2 [.non, .bl true, .bl false, .str "1", .str "", .ref p1, .int (-1), .int 17, .int (10 ^ (39 : Int).toNat), .ref p2, .ref p3, .str "kinds", .ref p4, .ref p5, .int 0, .int (-(10 ^ (39 : Int).toNat))]
      [.none, .bool true, .bool false, .str "1", .str "", .dict [], .int (-1), .int 17, .int (10 ^ (39 : Int).toNat), .tuple [.int 1, .int 2], .list [.int 2, .int 1], .str "kinds", .tuple [], .list [], .int 0, .int (-(10 ^ (39 : Int).toNat))] := by
    intro G e
    have two : ∀ {n : Nat} {i j : Int}, RdL K (Fr H) G n [.int i, .int j] [.int i, .int j] := .cons (.int _) (.cons (.int _) .nil)
    refine .cons (.inl .non) (.cons (.inl (.bl _)) (.cons (.inl (.bl _)) (.cons (.inl (.str _ (by decide +kernel) (by decide +kernel))) (.cons (.inl (.str _ (by decide +kernel) (by decide +kernel))) (.cons (.inr ⟨p1, rfl, rfl, f1, e _ _ (z1 _ _ u1)⟩) (.cons (.inl (.int _)) (.cons (.inl (.int _)) (.cons (.inl (.int _)) (.cons (.inl ?_) (.cons (.inl ?_) (.cons (.inl (.str _ (by decide +kernel) (by decide +kernel))) (.cons (.inl ?_) (.cons (.inl ?_) (.cons (.inl (.int _)) (.cons (.inl (.int _)) .nil)))))))))))))))
    · exact .tup (SqT.of (e _ _ (z2 _ _ u2))) f2 rfl (by decide) two.2
    · exact .lst (e _ _ (z3 _ _ u3)) f3 rfl (by decide) two.2
    · exact .tup (SqT.of (e _ _ (z4 _ _ u4))) f4 rfl (by decide) RdL.nil.2
    · exact .lst (e _ _ u5) f5 rfl (by decide) RdL.nil.2
  have y6 : Ex G5 (upd G5 L (.lst [.non, .bl true, .bl false, .str "1", .str "", .ref p1, .int (-1), .int 17, .int (10 ^ (39 : Int).toNat), .ref p2, .ref p3, .str "kinds", .ref p4, .ref p5, .int 0, .int (-(10 ^ (39 : Int).toNat))])) := Ex.new hL
  have B6 := hB.ex (z0.trans y6)
  have r6 := rdl _ y6
  refine ⟨_, rfl, b, 16, n, rfl, by decide, by decide, B6, fun r H8 r1 r2 B8 k8 => ?_⟩
  obtain ⟨x, d, hat, rx⟩ := r6.get r1 (show r < 16 from r2)
  have LB : L ≠ b := (hB.ex z0).ne hL
  exact ⟨_, _, _, _, rfl, rfl, SqL.of (k8 _ _ LB upd_same), hat, q x d H8 (rx.but k8 (fun a ha => box_ne hB ha)) B8 (But.pre (z0.trans y6) k8)⟩
def spSpList (K : PySem.W.Frag) : Sp := fun vs H Q _ => ∃ (b a l : Addr) (n : Nat) (ok : Addr → Prop) (ns ms : List Int) (x : V) (d : PyData), vs = [.ref b, .ref a, x, .ref l] ∧ BoxAt H b (n + 3) ∧ (∀ a, ok a → a ≠ b) ∧ H a = some (.lst (ns.map V.int)) ∧ ok a ∧ ns.length ≤ 20 ∧ Rd K ok H 1 x d ∧ H l = some (.lst (ms.map V.int)) ∧ ok l ∧ ms.length ≤ 20 ∧
  ∀ y e H', RdA K (fun a => ok a ∨ H a = none) H' 2 y e → BoxAt H' b n → But b H H' → Q y H'
theorem ok_law_spoilt_list (T : TK K mg) : FnOk P w K mg base CX0 3 T.law_spoilt_list.a T.law_spoilt_list.fd ["box", "items", "odd", "longer"] (spSpList K) := by
  refine T.law_spoilt_list.F.ok sc_law_spoilt_list (fun vs H Q E h => ?_) (fun cdv A outer s H vs Q E hr h => ?_)
  · obtain ⟨b, a, l, n, ok, ns, ms, x, d, rfl, _⟩ := h; rfl
  obtain ⟨b, a, l, n, ok, ns, ms, x, d, rfl, hB, okb, ha, oa, la, rx, hl, ol, ll, q⟩ := h
  refine ⟨_, (pss_cons (ps_par (i := 4) (j := 5) (by rfl) sc_law_spoilt_list.nd rfl rfl (by decide) rfl rfl (pa_cons (pe_call (ok_law_take T.toTA1) (hr.mono (by decide)) rfl T.law_take.m T.law_take.F.kp T.law_take.b .nil pass0 (pa_cons (pv 0) (pa_cons (pe_op op_add (pe_callB (klen K) (by rfl) T.z_len (by decide +kernel) (pa_cons (pv 1) pa_nil)) pe_int) pa_nil))) (pa_cons (pe_call (ok_law_take T.toTA1) (hr.mono (by decide)) rfl T.law_take.m T.law_take.F.kp T.law_take.b .nil pass0 (pa_cons (pv 0) (pa_cons pe_int pa_nil))) pa_nil)) (by rfl))
    (pss_cons (ps_if (pt_cmpR op_eq (pv 5) pe_int (nomark _)) (pss_one (ps_ret (pv 3))) pss_nil)
    (pss_cons (ps_if (pt_cmpR op_eq (pv 5) pe_int (nomark _)) (pss_one (ps_ret (pe_call (ok_law_odd T) (hr.mono (by decide)) rfl T.law_odd.m T.law_odd.F.kp T.law_odd.b .nil pass0 (pa_cons (pv 0) pa_nil)))) pss_nil)
    (pss_cons (ps_if (pt_cmpR op_eq (pv 5) pe_int (nomark _)) (pss_one (ps_ret (pe_op op_cat (pe_op op_cat (pe_slice (kslL K) (pv 1) po_none (po_some (pv 4))) (pe_lst (pa_cons (pv 2) pa_nil))) (pe_slice (kslL K) (pv 1) (po_some (pv 4)) po_none)))) pss_nil)
    (pss_one (ps_ret (pe_op op_cat (pe_op op_cat (pe_slice (kslL K) (pv 1) po_none (po_some (pv 4))) (pe_lst (pa_cons (pv 2) pa_nil))) (pe_slice (kslL K) (pv 1) (po_some (pe_op op_add (pv 4) pe_int)) po_none)))))))), ?_⟩
  refine ⟨_, rfl, _, rfl, _, _, rfl, .inl ⟨_, SqL.of ha, rfl⟩, _, _, rfl, rfl, b, _, n + 2, rfl, by omega, by rw [List.length_map]; omega, hB, fun at_ H1 a0 a1 B1 k1 => ?_⟩
  refine ⟨_, rfl, b, 6, n + 1, rfl, by decide, by decide, B1, fun way H2 w0 w1 B2 k2 => ⟨_, _, rfl, ?_⟩⟩
  have kk := k1.trans k2
  have ha2 := kk _ _ (okb a oa) ha
  have hl2 := kk _ _ (okb l ol) hl
  have rx2 := rx.but kk okb
  have w1 : ∀ a, ok a → (ok a ∨ H a = none) := fun a h => .inl h
  have mid : ∀ (H3 : Hp) (e3 : Ex H2 H3) (p : Addr) (i j : Int), H2 p = none → H3 p = some (.lst (cutV (ns.map V.int) none (some i) ++ [x] ++ cutV (ns.map V.int) (some j) none)) → Q (.ref p) H3 := by
    intro H3 e3 p i j hp hx
    have dd : Ds K (fun a => ok a ∨ H a = none) H3 1 (cutV (ns.map V.int) none (some i) ++ [x] ++ cutV (ns.map V.int) (some j) none) := mid_ds (Ds.ints ns) ((rx2.ex e3).of w1)
    have ml := @mid_len (ns.map V.int) x i j
    rw [List.length_map] at ml
    obtain ⟨d', rd⟩ := dd.lst hx (.inr (but_fresh kk hB B2 hp)) (by omega)
    exact q _ d' H3 (.inl rd) ((B2.ex e3).le (by omega)) (kk.ex e3)
  refine ⟨_, rfl, rfl, _, rfl, ite2 (fun _ => ?_) (fun _ => ?_)⟩
  · obtain ⟨d', rd⟩ := (Ds.ints (K := K) (ok := fun a => ok a ∨ H a = none) (H := H2) (n := 1) ms).lst hl2 (.inl ol) (by rw [List.length_map]; omega)
    exact ⟨_, rfl, q _ d' H2 (.inl rd) (B2.le (by omega)) kk⟩
  refine ⟨_, rfl, rfl, _, rfl, ite2 (fun _ => ?_) (fun _ => ?_)⟩
  · exact ⟨_, rfl, b, n, rfl, B2, fun y e H3 ry B3 k3 => q y e H3 (ry.of fun a ha => .inr (but_fresh kk hB B2 ha)) B3 (kk.trans k3)⟩
  refine ⟨_, rfl, rfl, _, rfl, ite2 (fun _ => ?_) (fun _ => ?_)⟩
  · exact (el_mid (K := K) (xs := ns.map V.int) (i := at_) (j := at_) (x := x) (ev_var rfl) (SqL.of ha2) (ev_var rfl) (ev_var rfl) (ev_var rfl) (by rw [List.length_map]; omega)) H2 (Ex.refl _) _ fun p H3 hp e3 hx => mid H3 e3 p _ _ hp hx
  · exact (el_mid (K := K) (xs := ns.map V.int) (i := at_) (j := at_ + 1) (x := x) (ev_var rfl) (SqL.of ha2) (ev_var rfl) (ev_var rfl) (ev_op (ev_var rfl) ev_c rv_I0) (by rw [List.length_map]; omega)) H2 (Ex.refl _) _ fun p H3 hp e3 hx => mid H3 e3 p _ _ hp hx
end
end L2.U


set_option Elab.async false
set_option linter.all false
set_option maxRecDepth 100000
set_option maxHeartbeats 4000000
namespace L2.U
open PySem PySem.Spec PyProof.Rows Evl


section
variable {P : Program} {w : World} {K : PySem.W.Frag} {mg : Str → Option Value} {base : Heap}
theorem but_mut {b D : Addr} {o : HO} {H G : Hp} (k : But b H G) (hD : H D = none) : But b H (upd G D o) := fun a u n h => by
  rw [upd_ne (ne_of_none h hD)]
  exact k a u n h
theorem box_upd {H : Hp} {b D : Addr} {n : Nat} {o : HO} (B : BoxAt H b n) (h : D ≠ b) : BoxAt (upd H D o) b n := by
  obtain ⟨d, m, c, f, hb, r⟩ := B
  exact ⟨d, m, c, f, by rw [upd_ne h.symm]; exact hb, r⟩
theorem rgV_ints (a c : Int) : ∃ ns : List Int, rgV a c = ns.map V.int ∧ ns.length = (c - a).toNat := by
  refine ⟨(List.range (c - a).toNat).map fun i : Nat => a + (i : Int), ?_, by rw [List.length_map, List.length_range]⟩
  unfold rgV
  rw [List.map_map]
  rfl
theorem cut_upto {xs : List V} {k : Nat} : (cutV xs none (some (k : Int))).length ≤ k := by
  unfold cutV
  rw [HT.sIx_none, HT.sIx_nat, List.length_take, List.length_drop]
  omega
def spLKindsD (K : PySem.W.Frag) : Sp := fun vs H Q _ => ∃ (b : Addr) (n c : Nat), vs = [.ref b, .int (c : Int)] ∧ c ≤ 16 ∧ BoxAt H b (n + 1 + c) ∧ ∀ p (ns : List Int) H', H p = none → H' p = some (.lst (ns.map V.int)) → ns.length = c → BoxAt H' b n → But b H H' → Q (.ref p) H'
theorem ok_law_kinds (T : TK K mg) : FnOk P w K mg base CX0 2 T.law_kinds.a T.law_kinds.fd ["box", "count"] (spLKindsD K) := by
  refine T.law_kinds.F.ok sc_law_kinds (fun vs H Q E h => ?_) (fun cdv A outer s H vs Q E hr h => ?_)
  · obtain ⟨b, n, c, rfl, _⟩ := h; rfl
  obtain ⟨b, n, c, rfl, hc, hB, q⟩ := h
  refine ⟨_, (pss_cons (ps_par3 (i := 2) (j := 3) (l := 4) (by rfl) sc_law_kinds.nd rfl rfl rfl (by decide) (by decide) (by decide) rfl rfl rfl (pa_cons (pe_call (ok_law_take T.toTA1) (hr.mono (by decide)) rfl T.law_take.m T.law_take.F.kp T.law_take.b .nil pass0 (pa_cons (pv 0) (pa_cons pe_int pa_nil))) (pa_cons (pe_lst pa_nil) (pa_cons pe_int pa_nil))) (by rfl))
    (pss_cons (ps_for PassesOwn.never rfl (pi_range1 rfl T.z_range (pa_cons (pv 1) pa_nil)) (pg_name (i := 5) sc_law_kinds.nd rfl (Or.inl rfl)) (pss_cons (ps_set (i := 4) sc_law_kinds.nd rfl (Or.inl rfl) (pe_op op_add (pe_op op_add (pv 4) pe_int) (pe_call (ok_law_take T.toTA1) (hr.mono (by decide)) rfl T.law_take.m T.law_take.F.kp T.law_take.b .nil pass0 (pa_cons (pv 0) (pa_cons pe_int pa_nil)))))
    (pss_one (ps_expr (pe_bm PySem.F.plainAttrs_list PySem.F.slot_list_append PySem.F.type_list_append mt_append (pv 3) (pa_cons (pv 4) pa_nil))))))
    (pss_one (ps_ret (pe_ix (kixl K) (pe_lst (pa_cons (by exact (pe_listRg (by rfl) (by rfl) T.z_list (prg_2 (by rfl) T.z_range pe_int (pe_op op_add (pv 1) pe_int)))) (pa_cons (by exact (pe_listRg (by rfl) (by rfl) T.z_list (prg_2 (by rfl) T.z_range (pe_op op_sub pe_int (pv 1)) pe_int))) (pa_cons (pv 3) pa_nil)))) (pv 2) (fun _ _ => rfl)))))), ?_⟩
  refine ⟨_, rfl, b, 3, n + c, rfl, by decide, by decide, hB.le (by omega), fun way H1 w0 w1 B1 k1 => ⟨Nat.zero_le _, fun F hF => ⟨_, _, _, rfl, ?_⟩⟩⟩
  have Fb : F ≠ b := B1.ne hF
  have F0 : H F = none := but_fresh k1 hB B1 hF
  refine ⟨_, rfl, _, rfl, by omega, by omega, for_range (lo := 0) (n := ((c : Int)).toNat) (fun i σ H' => BoxAt H' b (n + c - i) ∧ But b H H' ∧ ∃ (ns : List Int) (l : Int) (v : Option V), H' F = some (.lst (ns.map V.int)) ∧ ns.length = i ∧ σ = [some (.ref b), some (.int (c : Int)), some (.int way), some (.ref F), some (.int l), v])
    ⟨B1.ex (Ex.new hF), k1.ex (Ex.new hF), [], 0, _, upd_same, rfl, rfl⟩ ?_ ?_⟩
  · rintro i σ H' hi ⟨B, kk, ns, l, v, hf, hl, rfl⟩
    obtain ⟨m, hm⟩ : ∃ m, n + c - i = m + 1 := ⟨n + c - i - 1, by omega⟩
    have hm2 : n + c - (i + 1) = m := by omega
    rw [hm] at B
    refine ⟨_, rfl, _, _, rfl, rfl, _, rfl, b, 4, m, rfl, by decide, by decide, B, fun r H5 a0 a1 B5 k5 => ⟨_, _, rfl, rfl, ?_⟩⟩
    have hf5 := k5 _ _ Fb hf
    refine ⟨_, rfl, .inl ⟨rfl, _, SqL.of hf5⟩, _, rfl, F, _, _, rfl, rfl, hf5, small1000 (by rw [List.length_map]; omega), ?_⟩
    refine ⟨?_, but_mut (kk.trans k5) F0, ns ++ [l + 1 + r], _, _, by rw [upd_same, List.map_append]; rfl, by rw [List.length_append, hl]; rfl, rfl⟩
    rw [hm2]
    exact box_upd B5 Fb
  · rintro σ H2 ⟨B2, k2, ns, l, v, hf, hl, rfl⟩
    have B2' := B2.le (show n ≤ n + c - ((c : Int)).toNat by omega)
    refine ⟨_, rfl, _, _, rfl, rfl, _, _, rfl, rfl, ?_⟩
    refine ⟨.of_le (by omega) (by omega) (by omega) (by omega), fun q1 hq1 => ?_⟩
    refine ⟨_, rfl, _, _, rfl, rfl, _, _, rfl, rfl, .of_le (by omega) (by omega) (by omega) (by omega), fun q2 hq2 => ⟨_, rfl, (by show 3 ≤ sizeLine; decide), fun L hL => ?_⟩⟩
    have y1 := Ex.new (o := .lst (rgV 1 ((c : Int) + 1))) hq1
    have u1 : upd H2 q1 (.lst (rgV 1 ((c : Int) + 1))) q1 = some (.lst (rgV 1 ((c : Int) + 1))) := upd_same
    generalize upd H2 q1 (.lst (rgV 1 ((c : Int) + 1))) = G1 at *
    have y2 := Ex.new (o := .lst (rgV (65 - (c : Int)) 65)) hq2
    have u2 : upd G1 q2 (.lst (rgV (65 - (c : Int)) 65)) q2 = some (.lst (rgV (65 - (c : Int)) 65)) := upd_same
    generalize upd G1 q2 (.lst (rgV (65 - (c : Int)) 65)) = G2 at *
    have y3 := Ex.new (o := .lst [.ref q1, .ref q2, .ref F]) hL
    have u3 : upd G2 L (.lst [.ref q1, .ref q2, .ref F]) L = some (.lst [.ref q1, .ref q2, .ref F]) := upd_same
    generalize upd G2 L (.lst [.ref q1, .ref q2, .ref F]) = G3 at *
    have y13 := (y1.trans y2).trans y3
    have B3 := B2'.ex y13
    have k3 := k2.ex y13
    obtain ⟨n1, e1, l1⟩ := rgV_ints 1 ((c : Int) + 1)
    obtain ⟨n2, e2, l2⟩ := rgV_ints (65 - (c : Int)) 65
    rw [e1] at u1
    rw [e2] at u2
    rcases (by omega : way = 0 ∨ way = 1 ∨ way = 2) with rfl | rfl | rfl
    · exact ⟨_, rfl, _, _, _, _, rfl, rfl, SqL.of u3, rfl, q q1 n1 G3 (but_fresh k2 hB B2 hq1) (y3 _ _ (y2 _ _ u1)) (by omega) B3 k3⟩
    · exact ⟨_, rfl, _, _, _, _, rfl, rfl, SqL.of u3, rfl, q q2 n2 G3 (but_fresh k2 hB B2 (fresh_back y1 hq2)) (y3 _ _ u2) (by omega) B3 k3⟩
    · exact ⟨_, rfl, _, _, _, _, rfl, rfl, SqL.of u3, rfl, q F ns G3 F0 (y13 _ _ hf) (by omega) B3 k3⟩
def spLSizesD (K : PySem.W.Frag) : Sp := fun vs H Q _ => ∃ (b : Addr) (n c : Nat) (g : Int), vs = [.ref b, .int (c : Int), .int g] ∧ c ≤ 16 ∧ 0 ≤ g ∧ BoxAt H b (n + 5) ∧ ∀ p (ns : List Int) H', H p = none → H' p = some (.lst (ns.map V.int)) → ns.length ≤ 4 → (∀ z ∈ ns, 1 ≤ z ∧ z ≤ 3) → BoxAt H' b n → But b H H' → Q (.ref p) H'
theorem ok_law_sizes (T : TK K mg) : FnOk P w K mg base CX0 2 T.law_sizes.a T.law_sizes.fd ["box", "count", "more"] (spLSizesD K) := by
  refine T.law_sizes.F.ok sc_law_sizes (fun vs H Q E h => ?_) (fun cdv A outer s H vs Q E hr h => ?_)
  · obtain ⟨b, n, c, g, rfl, _⟩ := h; rfl
  obtain ⟨b, n, c, g, rfl, hc, hg, hB, q⟩ := h
  refine ⟨_, (pss_cons (ps_par (i := 3) (j := 4) (by rfl) sc_law_sizes.nd rfl rfl (by decide) rfl rfl (pa_cons (pv 1) (pa_cons (pe_lst pa_nil) pa_nil)) (by rfl))
    (pss_cons (ps_for PassesOwn.never rfl (pi_range1 rfl T.z_range (pa_cons (pe_call (ok_law_take T.toTA1) (hr.mono (by decide)) rfl T.law_take.m T.law_take.F.kp T.law_take.b .nil pass0 (pa_cons (pv 0) (pa_cons pe_int pa_nil))) pa_nil)) (pg_name (i := 5) sc_law_sizes.nd rfl (Or.inl rfl)) (pss_one (ps_if (pt_cmpR op_gt (pv 3) pe_int (nomark _)) (pss_cons (ps_set (i := 6) sc_law_sizes.nd rfl (Or.inl rfl) (pe_op op_add pe_int (pe_call (ok_law_take T.toTA1) (hr.mono (by decide)) rfl T.law_take.m T.law_take.F.kp T.law_take.b .nil pass0 (pa_cons (pv 0) (pa_cons (pe_callB (call_min2 rfl) (by rfl) T.z_min (by decide +kernel) (pa_cons (pv 3) (pa_cons pe_int pa_nil))) pa_nil)))))
    (pss_cons (ps_expr (pe_bm PySem.F.plainAttrs_list PySem.F.slot_list_append PySem.F.type_list_append mt_append (pv 4) (pa_cons (pv 6) pa_nil)))
    (pss_one (ps_set (i := 3) sc_law_sizes.nd rfl (Or.inl rfl) (pe_op op_sub (pe_op op_sub (pv 3) (pv 6)) (pv 2)))))) pss_nil)))
    (pss_one (ps_ret (pv 4))))), ?_⟩
  refine ⟨_, rfl, Nat.zero_le _, fun F F0 => ⟨_, _, rfl, ?_⟩⟩
  have y := Ex.new (o := .lst []) F0
  have Fb : F ≠ b := hB.ne F0
  refine ⟨_, rfl, b, 5, n + 4, rfl, by decide, by decide, hB.ex y, fun k H1 k0 k1' B1 k1 => ?_⟩
  refine ⟨_, rfl, by omega, by omega, for_range (lo := 0) (n := k.toNat) (fun i σ H' => BoxAt H' b (n + 4 - i) ∧ But b H H' ∧ ∃ (ns : List Int) (l : Int) (v5 v6 : Option V), H' F = some (.lst (ns.map V.int)) ∧ ns.length ≤ i ∧ (∀ z ∈ ns, 1 ≤ z ∧ z ≤ 3) ∧ σ = [some (.ref b), some (.int (c : Int)), some (.int g), some (.int l), some (.ref F), v5, v6])
    ⟨B1, But.pre y k1, [], _, _, _, k1 _ _ Fb upd_same, Nat.le_refl _, (fun z hz => by cases hz), rfl⟩ ?_ ?_⟩
  · rintro i σ H' hi ⟨B, kk, ns, l, v5, v6, hf, hl, hz, rfl⟩
    obtain ⟨m, hm⟩ : ∃ m, n + 4 - i = m + 1 := ⟨n + 4 - i - 1, by omega⟩
    have hm2 : n + 4 - (i + 1) = m := by omega
    rw [hm] at B
    refine ⟨_, rfl, _, _, rfl, rfl, _, rfl, ite2 (fun cl => ?_) (fun cl => ?_)⟩
    · have cl' : 0 < l := of_decide_eq_true cl
      refine ⟨_, rfl, _, rfl, _, _, rfl, b, _, m, rfl, ?_, ?_, B, fun r H5 a0 a1 B5 k5 => ⟨_, _, rfl, rfl, ?_⟩⟩
      · split <;> omega
      · split <;> omega
      have a3 : r < 3 := by split at a1 <;> omega
      have hf5 := k5 _ _ Fb hf
      refine ⟨_, rfl, .inl ⟨rfl, _, SqL.of hf5⟩, _, rfl, F, _, _, rfl, rfl, hf5, small1000 (by rw [List.length_map]; omega), ?_⟩
      refine ⟨_, rfl, _, rfl, _, _, rfl, rfl, _, rfl, _, _, rfl, rfl, ?_⟩
      refine ⟨?_, but_mut (kk.trans k5) F0, ns ++ [1 + r], _, _, _, by rw [upd_same, List.map_append]; rfl, by rw [List.length_append, List.length_singleton]; omega, fun z hzz => ?_, rfl⟩
      · rw [hm2]; exact box_upd B5 Fb
      · rcases List.mem_append.mp hzz with h | h
        · exact hz z h
        · rw [List.mem_singleton] at h; omega
    · refine ⟨?_, kk, ns, l, _, _, hf, by omega, hz, rfl⟩
      rw [hm2]; exact B.le (by omega)
  · rintro σ H2 ⟨B2, k2, ns, l, v5, v6, hf, hl, hz, rfl⟩
    exact ⟨_, rfl, q F ns H2 F0 hf (by omega) hz (B2.le (by omega)) k2⟩
def spSpSizes (K : PySem.W.Frag) : Sp := fun vs H Q _ => ∃ (b a : Addr) (n : Nat) (ok : Addr → Prop) (ns : List Int), vs = [.ref b, .ref a] ∧ BoxAt H b (n + 8) ∧ (∀ a, ok a → a ≠ b) ∧ H a = some (.lst (ns.map V.int)) ∧ ok a ∧ ns.length ≤ 16 ∧
  ∀ y e H', RdA K (fun a => ok a ∨ H a = none) H' 2 y e → BoxAt H' b n → But b H H' → Q y H'
theorem ok_law_spoilt_sizes (T : TK K mg) : FnOk P w K mg base CX0 4 T.law_spoilt_sizes.a T.law_spoilt_sizes.fd ["box", "sizes"] (spSpSizes K) := by
  refine T.law_spoilt_sizes.F.ok sc_law_spoilt_sizes (fun vs H Q E h => ?_) (fun cdv A outer s H vs Q E hr h => ?_)
  · obtain ⟨b, a, n, ok, ns, rfl, _⟩ := h; rfl
  obtain ⟨b, a, n, ok, ns, rfl, hB, okb, ha, oa, la, q⟩ := h
  refine ⟨_, (pss_one (ps_ret (pe_call (ok_law_spoilt_list T) (hr.mono (by decide)) rfl T.law_spoilt_list.m T.law_spoilt_list.F.kp T.law_spoilt_list.b .nil pass0 (pa_cons (pv 0) (pa_cons (pv 1) (pa_cons (pe_ix (kixl K) (pe_lst (pa_cons pe_int (pa_cons (pe_un un_neg pe_int) (pa_cons pe_bl (pa_cons pe_non (pa_cons pe_str (pa_cons (pe_tup (pa_cons pe_int pa_nil)) (pa_cons pe_int (pa_cons (pe_op op_pow pe_int pe_int) (pa_cons (pe_lst (pa_cons pe_int pa_nil)) (pa_cons pe_bl pa_nil))))))))))) (pe_call (ok_law_take T.toTA1) (hr.mono (by decide)) rfl T.law_take.m T.law_take.F.kp T.law_take.b .nil pass0 (pa_cons (pv 0) (pa_cons pe_int pa_nil))) (fun _ _ => rfl)) (pa_cons (pe_op op_rep (pe_lst (pa_cons pe_int pa_nil)) pe_int) pa_nil))))))), ?_⟩
  refine ⟨_, rfl, _, rfl, 1, rfl, (by show 1 ≤ sizeLine; decide), fun p1 h1 => ⟨_, _, rfl, rfl, ⟨by decide, by decide, by decide⟩, (by show 1 ≤ sizeLine; decide), fun p2 h2 => ⟨(by show 10 ≤ sizeLine; decide), fun L hL => ?_⟩⟩⟩
  have y1 : Ex H (upd H p1 (.tup [.int 1])) := Ex.new h1
  have u1 : upd H p1 (.tup [.int 1]) p1 = some (.tup [.int 1]) := upd_same
  generalize upd H p1 (.tup [.int 1]) = G1 at *
  have y2 : Ex G1 (upd G1 p2 (.lst [.int 1])) := Ex.new h2
  have u2 : upd G1 p2 (.lst [.int 1]) p2 = some (.lst [.int 1]) := upd_same
  generalize upd G1 p2 (.lst [.int 1]) = G2 at *
  have y12 := y1.trans y2
  have f2 : H p2 = none := fresh_back y1 h2
  have ds : ∀ G, Ex G2 G → Ds K (Fr H) G 1 [.int 0, .int (-1), .bl true, .non, .str "1", .ref p1, .int 99, .int (10 ^ (39 : Int).toNat), .ref p2, .bl false] := by
    intro G e
    have one : ∀ {n : Nat} {i : Int}, RdL K (Fr H) G n [.int i] [.int i] := .cons (.int _) .nil
    refine ⟨[.int 0, .int (-1), .bool true, .none, .str "1", .tuple [.int 1], .int 99, .int (10 ^ (39 : Int).toNat), .list [.int 1], .bool false], .cons (.int _) (.cons (.int _) (.cons (.bl _) (.cons .non (.cons (.str _ (by decide +kernel) (by decide +kernel)) (.cons ?_ (.cons (.int _) (.cons (.int _) (.cons ?_ (.cons (.bl _) .nil)))))))))⟩
    · exact .tup (SqT.of (e _ _ (y2 _ _ u1))) h1 rfl (by decide) one.2
    · exact .lst (e _ _ u2) f2 rfl (by decide) one.2
  have y6 := Ex.new (o := .lst [.int 0, .int (-1), .bl true, .non, .str "1", .ref p1, .int 99, .int (10 ^ (39 : Int).toNat), .ref p2, .bl false]) hL
  have LB : L ≠ b := (hB.ex y12).ne hL
  refine ⟨_, rfl, b, 10, n + 7, rfl, by decide, by decide, hB.ex (y12.trans y6), fun r H8 r1 r2 B8 k8 => ?_⟩
  obtain ⟨x, d, hat, rx⟩ := (ds _ y6).get r1 (show r < 10 from r2)
  refine ⟨_, _, _, _, rfl, rfl, SqL.of (k8 _ _ LB upd_same), hat, ?_⟩
  have rx8 := rx.but k8 (fun a ha => box_ne hB ha)
  have kk : But b H H8 := But.pre (y12.trans y6) k8
  refine (el_repL (σ := start ["box", "sizes"] [.ref b, .ref a]) (ta := tLst (tCons (tC (.int 1)) tNil)) (tb := tC (.int 17)) (xs := [.int 1]) (n := 17) (el_lst (ea_cons ev_c ea_nil) (by decide)) (fun _ _ => ev_c) (by decide) (by decide) (by decide)) H8 (Ex.refl _) _ fun l H9 hl e9 hx => ?_
  have k9 := kk.ex e9
  refine ⟨b, a, l, n + 4, fun c => ok c ∨ H c = none, ns, List.replicate 17 1, x, d, rfl, (B8.ex e9).le (by omega), fun c hc => hc.elim (okb c) (box_ne hB), k9 _ _ (okb a oa) ha, .inl oa, by omega, (rx8.ex e9).of (fun c hc => .inr hc), hx, .inr (but_fresh kk hB B8 hl), by decide, fun y e H' ry B k => ?_⟩
  refine q y e H' (ry.of fun c hc => ?_) (B.le (by omega)) (k9.trans k)
  rcases hc with hc | hc
  · exact hc
  · exact .inr (but_fresh k9 hB (B8.ex e9) hc)
end
end L2.U


set_option Elab.async false
set_option linter.all false
set_option maxRecDepth 100000
set_option maxHeartbeats 4000000
namespace L2.U
open PySem PySem.Spec PyProof.Rows Evl


section
variable {P : Program} {w : World} {K : PySem.W.Frag} {mg : Str → Option Value} {base : Heap}
def spSpKinds (K : PySem.W.Frag) : Sp := fun vs H Q _ => ∃ (b a : Addr) (n : Nat) (ok : Addr → Prop) (ns : List Int), vs = [.ref b, .ref a] ∧ BoxAt H b (n + 12) ∧ (∀ a, ok a → a ≠ b) ∧ H a = some (.lst (ns.map V.int)) ∧ ok a ∧ ns.length ≤ 16 ∧
  ∀ y e H', RdA K (fun a => ok a ∨ H a = none) H' 2 y e → BoxAt H' b n → But b H H' → Q y H'
theorem ok_law_spoilt_kinds (T : TK K mg) : FnOk P w K mg base CX0 4 T.law_spoilt_kinds.a T.law_spoilt_kinds.fd ["box", "kinds"] (spSpKinds K) := by
  refine T.law_spoilt_kinds.F.ok sc_law_spoilt_kinds (fun vs H Q E h => ?_) (fun cdv A outer s H vs Q E hr h => ?_)
  · obtain ⟨b, a, n, ok, ns, rfl, _⟩ := h; rfl
  obtain ⟨b, a, n, ok, ns, rfl, hB, okb, ha, oa, la, q⟩ := h
  refine ⟨_, (pss_cons (ps_set (i := 2) sc_law_spoilt_kinds.nd rfl (Or.inl rfl) (pe_ix (kixl K) (pe_lst (pa_cons pe_int (pa_cons pe_int (pa_cons pe_int (pa_cons pe_int (pa_cons pe_bl (pa_cons pe_non (pa_cons pe_str (pa_cons (pe_un un_neg pe_int) (pa_cons (pe_tup (pa_cons pe_int pa_nil)) (pa_cons pe_int pa_nil))))))))))) (pe_call (ok_law_take T.toTA1) (hr.mono (by decide)) rfl T.law_take.m T.law_take.F.kp T.law_take.b .nil pass0 (pa_cons (pv 0) (pa_cons pe_int pa_nil))) (fun _ _ => rfl)))
    (pss_cut (ps_if (PW.pt (pw_and (pt_cmpR op_gt (pe_callB (klen K) (by rfl) T.z_len (by decide +kernel) (pa_cons (pv 1) pa_nil)) pe_int (nomark _)) (pw_and1 (pt_cmpR op_eq (pe_call (ok_law_take T.toTA1) (hr.mono (by decide)) rfl T.law_take.m T.law_take.F.kp T.law_take.b .nil pass0 (pa_cons (pv 0) (pa_cons pe_int pa_nil))) pe_int (nomark _))))) (pss_cons (ps_set (i := 3) sc_law_spoilt_kinds.nd rfl (Or.inl rfl) (pe_call (ok_law_take T.toTA1) (hr.mono (by decide)) rfl T.law_take.m T.law_take.F.kp T.law_take.b .nil pass0 (pa_cons (pv 0) (pa_cons (pe_op op_sub (pe_callB (klen K) (by rfl) T.z_len (by decide +kernel) (pa_cons (pv 1) pa_nil)) pe_int) pa_nil))))
    (pss_one (ps_ret (pe_op op_cat (pe_op op_cat (pe_slice (kslL K) (pv 1) po_none (po_some (pv 3))) (pe_lst (pa_cons (pe_ix (kixl K) (pv 1) (pe_op op_add (pv 3) pe_int) (fun _ _ => rfl)) (pa_cons (pe_ix (kixl K) (pe_lst (pa_cons (pe_ix (kixl K) (pv 1) (pv 3) (fun _ _ => rfl)) (pa_cons (pe_ix (kixl K) (pv 1) (pe_op op_add (pv 3) pe_int) (fun _ _ => rfl)) pa_nil))) (pe_call (ok_law_take T.toTA1) (hr.mono (by decide)) rfl T.law_take.m T.law_take.F.kp T.law_take.b .nil pass0 (pa_cons (pv 0) (pa_cons pe_int pa_nil))) (fun _ _ => rfl)) pa_nil)))) (pe_slice (kslL K) (pv 1) (po_some (pe_op op_add (pv 3) pe_int)) po_none))))) pss_nil)
    (pss_one (ps_ret (pe_call (ok_law_spoilt_list T) (hr.mono (by decide)) rfl T.law_spoilt_list.m T.law_spoilt_list.F.kp T.law_spoilt_list.b .nil pass0 (pa_cons (pv 0) (pa_cons (pv 1) (pa_cons (pv 2) (pa_cons (pe_slice (kslL K) (by exact (pe_listRg (by rfl) (by rfl) T.z_list (prg_2 (by rfl) T.z_range (pe_op op_sub pe_int (pe_call (ok_law_take T.toTA1) (hr.mono (by decide)) rfl T.law_take.m T.law_take.F.kp T.law_take.b .nil pass0 (pa_cons (pv 0) (pa_cons pe_int pa_nil)))) pe_int))) po_none (po_some pe_int)) pa_nil))))))))), ?_⟩
  refine ⟨1, rfl, (by show 1 ≤ sizeLine; decide), fun p1 h1 => ⟨(by show 10 ≤ sizeLine; decide), fun L hL => ?_⟩⟩
  have y1 : Ex H (upd H p1 (.tup [.int 1])) := Ex.new h1
  have u1 : upd H p1 (.tup [.int 1]) p1 = some (.tup [.int 1]) := upd_same
  generalize upd H p1 (.tup [.int 1]) = G1 at *
  have ds : ∀ G, Ex G1 G → Ds K (Fr H) G 1 [.int 0, .int 65, .int 64, .int 1, .bl true, .non, .str "3", .int (-1), .ref p1, .int 2] := by
    intro G e
    have one : ∀ {n : Nat} {i : Int}, RdL K (Fr H) G n [.int i] [.int i] := .cons (.int _) .nil
    refine ⟨[.int 0, .int 65, .int 64, .int 1, .bool true, .none, .str "3", .int (-1), .tuple [.int 1], .int 2], .cons (.int _) (.cons (.int _) (.cons (.int _) (.cons (.int _) (.cons (.bl _) (.cons .non (.cons (.str _ (by decide +kernel) (by decide +kernel)) (.cons (.int _) (.cons ?_ (.cons (.int _) .nil)))))))))⟩
    exact .tup (SqT.of (e _ _ u1)) h1 rfl (by decide) one.2
  have y6 := Ex.new (o := .lst [.int 0, .int 65, .int 64, .int 1, .bl true, .non, .str "3", .int (-1), .ref p1, .int 2]) hL
  have LB : L ≠ b := (hB.ex y1).ne hL
  refine ⟨_, rfl, b, 10, n + 11, rfl, by decide, by decide, hB.ex (y1.trans y6), fun r H8 r1 r2 B8 k8 => ?_⟩
  obtain ⟨x, d, hat, rx⟩ := (ds _ y6).get r1 (show r < 10 from r2)
  refine ⟨_, _, _, _, rfl, rfl, SqL.of (k8 _ _ LB upd_same), hat, ?_⟩
  have rx8 := rx.but k8 (fun a ha => box_ne hB ha)
  have kk : But b H H8 := But.pre (y1.trans y6) k8
  have ha8 := kk _ _ (okb a oa) ha
  have eq : ∀ {G y e G' m}, But b H G → BoxAt G b m → RdA K (fun c => (ok c ∨ H c = none) ∨ G c = none) G' 2 y e → RdA K (fun c => ok c ∨ H c = none) G' 2 y e := fun k B r => r.of fun c hc => hc.elim id (fun h => .inr (but_fresh k hB B h))
  refine ⟨fun σ' H' => ∃ v, σ' = [some (.ref b), some (.ref a), some x, v] ∧ BoxAt H' b (n + 10) ∧ But b H H' ∧ Rd K (Fr H) H' 1 x d, ?_, ?_⟩
  · refine ⟨_, rfl, _, _, rfl, .inl ⟨_, SqL.of ha8, rfl⟩, _, _, rfl, rfl, _, rfl, ite2 (fun c => ?_) (fun _ => ⟨_, rfl, B8.le (by omega), kk, rx8⟩)⟩
    have c' : (1 : Int) < (((ns.map V.int).length : Nat) : Int) := of_decide_eq_true c
    refine ⟨_, rfl, b, 4, n + 10, rfl, by decide, by decide, B8, fun r4 H9 _ _ B9 k9 => ⟨rfl, _, rfl, ite2 (fun _ => ?_) (fun _ => ⟨_, rfl, B9, kk.trans k9, rx8.but k9 (fun a ha => box_ne hB ha)⟩)⟩⟩
    have ha9 := k9 _ _ (okb a oa) ha8
    refine ⟨_, rfl, _, rfl, _, _, rfl, .inl ⟨_, SqL.of ha9, rfl⟩, _, _, rfl, rfl, b, _, n + 9, rfl, by omega, by rw [List.length_map]; omega, B9, fun at_ HA a0 a1 BA kA => ?_⟩
    have haA := kA _ _ (okb a oa) ha9
    have kkA := (kk.trans k9).trans kA
    obtain ⟨v0, at0, g0'⟩ := at_get (xs := ns.map V.int) (k := at_) a0 (by omega)
    obtain ⟨z0, _, rfl⟩ := ints_get g0'
    obtain ⟨v1, at1, g1'⟩ := at_get (xs := ns.map V.int) (k := at_ + 1) (by omega) (by omega)
    obtain ⟨z1, _, rfl⟩ := ints_get g1'
    refine (el_sl (σ := [some (.ref b), some (.ref a), some x, some (.int at_)]) (te := tVar 1) (tl := tNoPart) (th := tPart (tVar 3)) (ev_var rfl) eo_none (eo_some (ev_var rfl)) (SqL.of haA)) HA (Ex.refl _) _ fun q1 G1 hq1 e1 w1 => ?_
    have ha1 := e1 _ _ haA
    refine ⟨_, rfl, _, rfl, _, _, rfl, rfl, _, _, _, _, rfl, rfl, SqL.of ha1, at1, _, rfl, _, rfl, _, _, _, _, rfl, rfl, SqL.of ha1, at0, _, rfl, _, rfl, _, _, rfl, rfl, _, _, _, _, rfl, rfl, SqL.of ha1, at1, two_le, fun L2 hL2 => ?_⟩
    have e2 := Ex.new (o := .lst [.int z0, .int z1]) hL2
    have L2b : L2 ≠ b := (BA.ex e1).ne hL2
    refine ⟨_, rfl, b, 2, n + 8, rfl, by decide, by decide, (BA.ex e1).ex e2, fun r2 HB b0 b1 BB kB => ?_⟩
    obtain ⟨v2, at2, g2'⟩ := at_get (xs := [z0, z1].map V.int) (k := r2) b0 (by show r2 < 2; exact b1)
    obtain ⟨z2, _, rfl⟩ := ints_get g2'
    refine ⟨_, _, _, _, rfl, rfl, SqL.of (kB _ _ L2b upd_same), at2, two_le, fun q2 hq2 => ?_⟩
    have q1b : q1 ≠ b := BA.ne hq1
    have w2 := kB _ _ q1b (e2 _ _ w1)
    have e3 := Ex.new (o := .lst [.int z1, .int z2]) hq2
    have w3 := e3 _ _ w2
    have cl := @cutV_len (ns.map V.int) none (some at_)
    rw [List.length_map] at cl
    refine ⟨q1, q2, _, _, rfl, rfl, w3, upd_same, sz_of (by show _ + 2 ≤ 100000; omega), fun q3 hq3 => ?_⟩
    have e4 := Ex.new (o := .lst (cutV (ns.map V.int) none (some at_) ++ [.int z1, .int z2])) hq3
    have u4 : upd (upd HB q2 (.lst [.int z1, .int z2])) q3 (.lst (cutV (ns.map V.int) none (some at_) ++ [.int z1, .int z2])) q3 = some (.lst (cutV (ns.map V.int) none (some at_) ++ [.int z1, .int z2])) := upd_same
    have kkB := ((kkA.ex e1).ex e2).trans kB
    have k4 := (kkB.ex e3).ex e4
    have B4 := (BB.ex e3).ex e4
    generalize upd (upd HB q2 (.lst [.int z1, .int z2])) q3 (.lst (cutV (ns.map V.int) none (some at_) ++ [.int z1, .int z2])) = G4 at *
    have ha4 := k4 _ _ (okb a oa) ha
    refine (el_sl (σ := [some (.ref b), some (.ref a), some x, some (.int at_)]) (te := tVar 1) (tl := tPart (tOp (rI0 fun i j => .int (i + j)) (tVar 3) (tC (.int 2)))) (th := tNoPart) (ev_var rfl) (eo_some (ev_op (ev_var rfl) ev_c rv_I0)) eo_none (SqL.of ha4)) G4 (Ex.refl _) _ fun q4 G5 hq4 e5 w5 => ?_
    have cl2 := @cutV_len (ns.map V.int) (some (at_ + 2)) none
    rw [List.length_map] at cl2
    refine ⟨q3, q4, _, _, rfl, rfl, e5 _ _ u4, w5, sz_of (by rw [List.length_append]; show _ + 2 + _ ≤ 100000; omega), fun q5 hq5 => ?_⟩
    have e6 := Ex.new (o := .lst (cutV (ns.map V.int) none (some at_) ++ [.int z1, .int z2] ++ cutV (ns.map V.int) (some (at_ + 2)) none)) hq5
    have dd : Ds K (fun a => ok a ∨ H a = none) (upd G5 q5 (.lst (cutV (ns.map V.int) none (some at_) ++ [.int z1, .int z2] ++ cutV (ns.map V.int) (some (at_ + 2)) none))) 1 (cutV (ns.map V.int) none (some at_) ++ [.int z1, .int z2] ++ cutV (ns.map V.int) (some (at_ + 2)) none) := ((Ds.ints ns).cut.app (Ds.ints [z1, z2])).app (Ds.ints ns).cut
    have B5 := B4.ex e5
    have k5 := k4.ex e5
    obtain ⟨d', rd⟩ := dd.lst upd_same (.inr (but_fresh k5 hB B5 hq5)) (by rw [List.length_append, List.length_append]; show _ + 2 + _ ≤ 900; omega)
    exact q _ d' _ (.inl rd) ((B5.ex e6).le (by omega)) (k5.ex e6)
  · rintro σ' H9 ⟨v, rfl, B9, k9, rx9⟩
    refine ⟨_, rfl, _, rfl, _, rfl, _, rfl, b, 47, n + 9, rfl, by decide, by decide, B9, fun r HA a0 a1 BA kA => ⟨_, _, rfl, rfl, _, _, rfl, rfl, .of_le (by omega) (by omega) (by omega) (by omega), fun q1 hq1 => ?_⟩⟩
    have e1 := Ex.new (o := .lst (rgV (48 - r) 65)) hq1
    refine ⟨17, rfl, q1, _, rfl, SqL.of upd_same, fun q2 hq2 => ?_⟩
    have e2 := Ex.new (o := .lst (cutV (rgV (48 - r) 65) none (some 17))) hq2
    obtain ⟨ns1, en, _⟩ := rgV_ints (48 - r) 65
    obtain ⟨ms, em⟩ := cutV_ints ns1 none (some 17)
    have cl := @cut_upto (rgV (48 - r) 65) 17
    have hx : upd (upd HA q1 (.lst (rgV (48 - r) 65))) q2 (.lst (cutV (rgV (48 - r) 65) none (some 17))) q2 = some (.lst (ms.map V.int)) := by rw [upd_same, en, em]
    have ml : ms.length ≤ 17 := by
      have : (cutV (rgV (48 - r) 65) none (some 17)).length ≤ 17 := cl
      rw [en, em, List.length_map] at this
      exact this
    have kkA := k9.trans kA
    have k3 := (kkA.ex e1).ex e2
    have B3 := (BA.ex e1).ex e2
    have rx3 := ((rx9.but kA (fun a ha => box_ne hB ha)).ex e1).ex e2
    have f2 : H q2 = none := but_fresh kkA hB BA (fresh_back e1 hq2)
    refine ⟨b, a, q2, n + 6, fun c => ok c ∨ H c = none, ns, ms, x, d, rfl, B3.le (by omega), fun c hc => hc.elim (okb c) (box_ne hB), k3 _ _ (okb a oa) ha, .inl oa, by omega, rx3.of (fun c hc => .inr hc), hx, .inr f2, by omega, fun y e H' ry B k => ?_⟩
    exact q y e H' (eq k3 B3 ry) (B.le (by omega)) (k3.trans k)
end
end L2.U


set_option Elab.async false
set_option linter.all false
set_option maxRecDepth 100000
set_option maxHeartbeats 4000000
namespace L2.U
open PySem PySem.Spec PyProof.Rows Evl


section
variable {P : Program} {w : World} {K : PySem.W.Frag} {mg : Str → Option Value} {base : Heap}
theorem seqIx {n k : Nat} (h : k < n) : seqIndex? (k : Int) n = some k := by
  exact (ixN_seq (ixN_nat h)).1
theorem eraseIdx_ints {ns : List Int} {k : Nat} : (ns.map V.int).eraseIdx k = (ns.eraseIdx k).map V.int := by
  rw [List.eraseIdx_eq_take_drop_succ, List.eraseIdx_eq_take_drop_succ, List.map_append, List.map_take, List.map_drop]
/-- tuples of one to three whole numbers -/
def Tup3 (H : Hp) (t : Addr) : Prop := ∃ ns : List Int, H t = some (.tup (ns.map V.int)) ∧ 1 ≤ ns.length ∧ ns.length ≤ 3
theorem tup3_ds {ok : Addr → Prop} {H : Hp} {ts : List Addr} (h : ∀ t ∈ ts, ok t ∧ Tup3 H t) : Ds K ok H 1 (ts.map V.ref) := by
  induction ts with
  | nil => exact Ds.nil
  | cons t r ih =>
    obtain ⟨o, ns, ht, _, hl⟩ := h t (by simp)
    obtain ⟨d, rd⟩ := (Ds.ints (K := K) (ok := ok) (H := H) (n := 0) ns).tup (SqT.of ht) o (by rw [List.length_map]; omega)
    exact (Ds.one rd).app (ih fun z hz => h z (List.mem_cons_of_mem _ hz))
/-- all but two cells stay -/
def But2 (b R : Addr) (H H' : Hp) : Prop := ∀ a o, a ≠ b → a ≠ R → H a = some o → H' a = some o
theorem But2.of {b R : Addr} {H H' : Hp} (k : But b H H') : But2 b R H H' := fun a o h1 _ h => k a o h1 h
theorem But2.trans {b R : Addr} {H H1 H2 : Hp} (k : But2 b R H H1) (l : But2 b R H1 H2) : But2 b R H H2 := fun a o h1 h2 h => l a o h1 h2 (k a o h1 h2 h)
theorem But2.put {b R : Addr} {H : Hp} {o : HO} : But2 b R H (upd H R o) := fun a u _ h2 h => by rw [upd_ne h2]; exact h
theorem But2.mut {b R D : Addr} {H G : Hp} {o : HO} (k : But2 b R H G) (hD : H D = none) : But2 b R H (upd G D o) := fun a u h1 h2 h => by
  rw [upd_ne (ne_of_none h hD)]
  exact k a u h1 h2 h
theorem ne_of_none' {H : Hp} {a p : Addr} {o : HO} (h : H a = some o) (hp : H p = none) : p ≠ a := by rintro rfl; rw [h] at hp; cases hp
def spLDrawn (K : PySem.W.Frag) : Sp := fun vs H Q _ => ∃ (b a s : Addr) (n : Nat) (g : Int) (ks ss : List Int), vs = [.ref b, .ref a, .ref s, .int g] ∧ BoxAt H b (n + 12) ∧ H a = some (.lst (ks.map V.int)) ∧ H s = some (.lst (ss.map V.int)) ∧ a ≠ b ∧ s ≠ b ∧ (g = 0 ∨ g = 1) ∧ ks.length ≤ 16 ∧ ss.length ≤ 4 ∧ (∀ z ∈ ss, 1 ≤ z ∧ z ≤ 3) ∧
  ∀ p (ts : List Addr) H', H p = none → H' p = some (.lst (ts.map V.ref)) → ts.length ≤ 4 → (∀ t ∈ ts, H t = none ∧ Tup3 H' t) → (ts ≠ [] → ks ≠ []) → BoxAt H' b n → But b H H' → Q (.ref p) H'
theorem ok_law_drawn (T : TK K mg) : FnOk P w K mg base CX0 2 T.law_drawn.a T.law_drawn.fd ["box", "kinds", "sizes", "more"] (spLDrawn K) := by
  refine T.law_drawn.F.ok sc_law_drawn (fun vs H Q E h => ?_) (fun cdv A outer s H vs Q E hr h => ?_)
  · obtain ⟨b, a, s, n, g, ks, ss, rfl, _⟩ := h; rfl
  obtain ⟨b, a, s, n, g, ks, ss, rfl, hB, ha, hs, ab, sb, hg, hk, hl4, hz, q⟩ := h
  refine ⟨_, (pss_cons (ps_par (i := 4) (j := 5) (by rfl) sc_law_drawn.nd rfl rfl (by decide) rfl rfl (pa_cons (pe_callTy (klist K) (by rfl) T.z_list (by decide +kernel) (pa_cons (pv 1) pa_nil)) (pa_cons (pe_lst pa_nil) pa_nil)) (by rfl))
    (pss_cons (ps_for PassesOwn.never rfl (kpil K (pv 2)) (pg_name (i := 6) sc_law_drawn.nd rfl (Or.inl rfl)) (pss_cons (ps_set (i := 7) sc_law_drawn.nd rfl (Or.inr rfl) (pe_ifExp (pt_cmpR (kneD K hr.units) (pv 5) (pe_lst pa_nil) (nomark _)) (pe_slice (kslL K) (pv 4) (po_some (pv 3)) po_none) (pe_callTy (klist K) (by rfl) T.z_list (by decide +kernel) (pa_cons (pv 4) pa_nil))))
    (pss_one (ps_if (pt_cmpR op_le (pv 6) (pe_callB (klen K) (by rfl) T.z_len (by decide +kernel) (pa_cons (pv 7) pa_nil)) (nomark _)) (pss_cons (ps_expr (pe_bm PySem.F.plainAttrs_list PySem.F.slot_list_append PySem.F.type_list_append mt_append (pv 5) (pa_cons (pe_callTy (ktuple K) (by rfl) T.z_tuple (by decide +kernel) (pa_cons (pe_callB (ksorted K) (by rfl) T.z_sorted (by decide +kernel) (pa_cons (pe_lc (own := [("turn", 8)]) (g := gName 8) (by rfl) sc_law_drawn.nd (pi_range1 rfl T.z_range (pa_cons (pv 6) pa_nil)) (blkOk_by (own := [("turn", 8)]) (N := ["box", "kinds", "sizes", "more", "left", "found", "size", "rest", "turn"]) (sc := defScope s_law_drawn) (by decide +kernel)) (fun _ _ _ _ _ => (pg_name (i := 8) sc_law_drawn.nd rfl (Or.inl rfl))) (fun _ _ _ _ _ => pts_nil) (fun _ _ _ _ _ => (pe_bmK K PySem.F.plainAttrs_list PySem.F.slot_list_pop PySem.F.type_list_pop mt_popAt (pv 7) (pa_cons (pe_call (ok_law_take T.toTA1) (hr.mono (by decide)) rfl T.law_take.m T.law_take.F.kp T.law_take.b .nil pass0 (pa_cons (pv 0) (pa_cons (pe_callB (klen K) (by rfl) T.z_len (by decide +kernel) (pa_cons (pv 7) pa_nil)) pa_nil))) pa_nil)))) pa_nil)) pa_nil)) pa_nil)))
    (pss_one (ps_set (i := 4) sc_law_drawn.nd rfl (Or.inl rfl) (pe_callB (ksorted K) (by rfl) T.z_sorted (by decide +kernel) (pa_cons (pv 7) pa_nil))))) pss_nil))))
    (pss_one (ps_ret (pv 5))))), ?_⟩
  refine ⟨_, rfl, a, _, rfl, .inl (SqL.of ha), fun L0 hL0 => ⟨Nat.zero_le _, fun F hF => ⟨_, _, rfl, ?_⟩⟩⟩
  have y1 := Ex.new (o := .lst (ks.map V.int)) hL0
  have y2 := Ex.new (o := .lst []) hF
  have F0 : H F = none := fresh_back y1 hF
  have Fb : F ≠ b := hB.ne F0
  have s2 := y2 _ _ (y1 _ _ hs)
  refine ⟨_, rfl, s, rfl, ⟨_, SqL.of s2⟩, for_list (xs := ss.map V.int) (fun i σ H' => BoxAt H' b (n + 12 - 3 * i) ∧ But b H H' ∧ ∃ (ts : List Addr) (Lp : Addr) (ls : List Int) (v6 v7 : Option V), σ = [some (.ref b), some (.ref a), some (.ref s), some (.int g), some (.ref Lp), some (.ref F), v6, v7, none] ∧ H' F = some (.lst (ts.map V.ref)) ∧ ts.length ≤ i ∧ (∀ t ∈ ts, H t = none ∧ Tup3 H' t) ∧ (ts ≠ [] → ks ≠ []) ∧ H' Lp = some (.lst (ls.map V.int)) ∧ H Lp = none ∧ Lp ≠ F ∧ ls.length ≤ ks.length)
    ⟨(hB.ex y1).ex y2, (But.of y1).ex y2, [], L0, ks, _, _, rfl, upd_same, Nat.le_refl _, (fun t ht => by cases ht), (fun z => absurd rfl z), y2 _ _ upd_same, hL0, ?_, Nat.le_refl _⟩
    (fun i σ H' _ p => SqL.of (p.2.1 _ _ sb hs)) ?_ ?_⟩
  · rintro rfl
    rw [upd_same] at hF
    cases hF
  · rintro i x σ H1 hx ⟨B1, k1, ts, Lp, ls, v6, v7, rfl, hf, hlen, all, hne, hLp, Lp0, LF, hll⟩
    obtain ⟨z, hzi, rfl⟩ := ints_get hx
    have z13 := hz z (List.mem_of_getElem? hzi)
    have hi4 : i < 4 := by have := (List.getElem?_eq_some_iff.mp hzi).1; omega
    have Lpb : Lp ≠ b := hB.ne Lp0
    -- found is data
    obtain ⟨dF, rF⟩ := (tup3_ds (K := K) (ok := fun t => H t = none) (H := H1) all).lst hf F0 (by rw [List.length_map]; omega)
    refine ⟨_, rfl, Nat.zero_le _, fun e he => ?_⟩
    have x1 := Ex.new (o := .lst []) he
    have rF1 := rF.ex x1
    refine ⟨dF, .list [], rF1.dp, .lst (SqL.of upd_same) .nil, rF1.shaped (by omega), rfl, _, rfl, ?_⟩
    have B2 := B1.ex x1
    have k2 := k1.ex x1
    have hf2 := x1 _ _ hf
    have all2 : ∀ t ∈ ts, H t = none ∧ Tup3 (upd H1 e (.lst [])) t := fun t ht => by
      obtain ⟨h1, ns, h2, h3⟩ := all t ht
      exact ⟨h1, ns, x1 _ _ h2, h3⟩
    have hLp2 := x1 _ _ hLp
    generalize upd H1 e (.lst []) = H2 at B2 k2 hf2 all2 hLp2 ⊢
    clear x1 rF1 rF he
    -- the rest
    have body : ∀ (R : Addr) (rs : List Int) (H3 : Hp), H2 R = none → Ex H2 H3 → H3 R = some (.lst (rs.map V.int)) → rs.length ≤ ls.length →
        tIfS (tTest (tOp (rI0 fun i j => .bl (decide (i ≤ j))) (tVar 6) (tCB (rLen K) (tCons (tVar 7) tNil))))
          (tSeq (tDrop (tBM K "list" rAppend (tVar 5) (tCons (tCB (rTupOf K) (tCons (tCB (rSorted K) (tCons (tLc (iRng1 (tCons (tVar 6) tNil)) (gName 8) tYes (tBM K "list" rPopAt (tVar 7) (tCons (tCall spTake [] E0 (tCons (tVar 0) (tCons (tCB (rLen K) (tCons (tVar 7) tNil)) tNil))) tNil)) [8]) tNil)) tNil)) tNil)))
            (tAsg (tCB (rSorted K) (tCons (tVar 7) tNil)) (gName 4))) tNext
          { nx := fun σ H' => BoxAt H' b (n + 12 - 3 * (i + 1)) ∧ But b H H' ∧ ∃ (ts : List Addr) (Lp : Addr) (ls : List Int) (v6 v7 : Option V), σ = [some (.ref b), some (.ref a), some (.ref s), some (.int g), some (.ref Lp), some (.ref F), v6, v7, none] ∧ H' F = some (.lst (ts.map V.ref)) ∧ ts.length ≤ i + 1 ∧ (∀ t ∈ ts, H t = none ∧ Tup3 H' t) ∧ (ts ≠ [] → ks ≠ []) ∧ H' Lp = some (.lst (ls.map V.int)) ∧ H Lp = none ∧ Lp ≠ F ∧ ls.length ≤ ks.length, rt := Q }
          [some (.ref b), some (.ref a), some (.ref s), some (.int g), some (.ref Lp), some (.ref F), some (.int z), some (.ref R), none] H3 := by
      intro R rs H3 hR0 e3 hR lr
      have B3 := B2.ex e3
      have k3 := k2.ex e3
      have hf3 := e3 _ _ hf2
      have hLp3 := e3 _ _ hLp2
      have Rb : R ≠ b := B2.ne hR0
      have RF : R ≠ F := ne_of_none' hf2 hR0
      have R0 : H R = none := but_fresh k2 hB B2 hR0
      refine ⟨_, rfl, _, rfl, _, _, rfl, .inl ⟨_, SqL.of hR, rfl⟩, _, _, rfl, rfl, _, rfl, ite2 (fun c => ?_) (fun c => ?_)⟩
      · have c' : z ≤ (((rs.map V.int).length : Nat) : Int) := of_decide_eq_true c
        rw [List.length_map] at c'
        refine ⟨_, rfl, .inl ⟨rfl, _, SqL.of hf3⟩, _, rfl, z, rfl, by omega, by omega, fun D hD => ?_⟩
        have DF : D ≠ F := ne_of_none' hf3 hD
        have DR : D ≠ R := ne_of_none' hR hD
        have Db : D ≠ b := B3.ne hD
        have D0 : H D = none := but_fresh k3 hB B3 hD
        refine lc_range (lo := 0) (n := z.toNat) (fun j H' => BoxAt H' b (n + 12 - 3 * i - j) ∧ But b H H' ∧ But2 b R H3 H' ∧ ∃ (js rs' : List Int), H' D = some (.lst (js.map V.int)) ∧ js.length = j ∧ H' R = some (.lst (rs'.map V.int)) ∧ rs'.length + j = rs.length) ⟨B3.ex (Ex.new hD), k3.ex (Ex.new hD), But2.mut (fun a o _ _ h => h) hD, [], rs, upd_same, rfl, (Ex.new hD) _ _ hR, rfl⟩ ?_ ?_
        · rintro j H' hj ⟨B, kk, k22, js, rs', hd, lj, hr', lr'⟩
          obtain ⟨m, hm⟩ : ∃ m, n + 12 - 3 * i - j = m + 1 := ⟨n + 12 - 3 * i - j - 1, by omega⟩
          have hm2 : n + 12 - 3 * i - (j + 1) = m := by omega
          rw [hm] at B
          refine ⟨rfl, tyes ?_⟩
          refine ⟨_, rfl, .inl ⟨rfl, _, SqL.of hr'⟩, _, rfl, _, rfl, _, _, rfl, .inl ⟨_, SqL.of hr', rfl⟩, b, _, m, rfl, by rw [List.length_map]; omega, by rw [List.length_map]; omega, B, fun r H5 a0 a1 B5 k5 => ?_⟩
          rw [List.length_map] at a1
          have hr5 := k5 _ _ Rb hr'
          have hd5 := k5 _ _ Db hd
          obtain ⟨k, rfl⟩ : ∃ k : Nat, r = (k : Int) := ⟨r.toNat, by omega⟩
          have hkl : k < rs'.length := by omega
          refine ⟨R, _, (k : Int), k, .int rs'[k], rfl, rfl, hr5, by omega, by omega, by rw [List.length_map]; exact seqIx hkl, by rw [List.getElem?_map, List.getElem?_eq_getElem hkl]; rfl, ?_⟩
          rw [eraseIdx_ints]
          refine ⟨_, by rw [upd_ne DR]; exact hd5, small1000 (by rw [List.length_map]; omega), ?_⟩
          refine ⟨?_, but_mut (but_mut (kk.trans k5) R0) D0, But2.mut ((k22.trans (.of k5)).trans But2.put) hD, js ++ [rs'[k]], rs'.eraseIdx k, by rw [upd_same, List.map_append]; rfl, by rw [List.length_append, lj]; rfl, by rw [upd_ne DR.symm, upd_same], ?_⟩
          · rw [hm2]; exact box_upd (box_upd B5 Rb) Db
          · rw [List.length_eraseIdx, if_pos hkl]; omega
        · rintro H4 ⟨B4, k4, k22, js, rs', hd, lj, hr', lr'⟩
          have hf4 := k22 _ _ Fb RF.symm hf3
          refine ⟨D, js, rfl, SqL.of hd, by omega, fun ms p perm _ hp => ?_⟩
          have f1 := Ex.new (o := .lst (ms.map V.int)) hp
          refine ⟨p, _, rfl, .inl ⟨SqL.of upd_same, fun t ht => ?_⟩⟩
          have f2 := Ex.new (o := .tup (ms.map V.int)) ht
          have f12 := f1.trans f2
          have ml := perm.length_eq
          have ut : upd (upd H4 p (.lst (ms.map V.int))) t (.tup (ms.map V.int)) t = some (.tup (ms.map V.int)) := upd_same
          have t0 : H t = none := but_fresh (k4.ex f1) hB (B4.ex f1) ht
          have B6 := B4.ex f12
          have k6 := k4.ex f12
          have hf6 := f12 _ _ hf4
          have hr6 := f12 _ _ hr'
          have all6 : ∀ u ∈ ts, H u = none ∧ Tup3 (upd (upd H4 p (.lst (ms.map V.int))) t (.tup (ms.map V.int))) u := fun u hu => by
            obtain ⟨h1, ns, h2, h3⟩ := all2 u hu
            have h4 := e3 _ _ h2
            have ub : u ≠ b := hB.ne h1
            have uR : u ≠ R := by rintro rfl; rw [hR] at h4; cases h4
            exact ⟨h1, ns, f12 _ _ (k22 _ _ ub uR h4), h3⟩
          have tF : t ≠ F := by rintro rfl; rw [hf6] at ut; cases ut
          generalize upd (upd H4 p (.lst (ms.map V.int))) t (.tup (ms.map V.int)) = H6 at *
          refine ⟨F, _, _, rfl, rfl, hf6, small1000 (by rw [List.length_map]; omega), ?_⟩
          have B7 := box_upd (o := .lst (ts.map V.ref ++ [.ref t])) B6 Fb
          have k7 : But b H (upd H6 F (.lst (ts.map V.ref ++ [.ref t]))) := but_mut k6 F0
          have hf7 : upd H6 F (.lst (ts.map V.ref ++ [.ref t])) F = some (.lst ((ts ++ [t]).map V.ref)) := by rw [upd_same, List.map_append]; rfl
          have hr7 : upd H6 F (.lst (ts.map V.ref ++ [.ref t])) R = some (.lst (rs'.map V.int)) := by rw [upd_ne RF]; exact hr6
          have all7 : ∀ u ∈ ts ++ [t], H u = none ∧ Tup3 (upd H6 F (.lst (ts.map V.ref ++ [.ref t]))) u := fun u hu => by
            rcases List.mem_append.mp hu with h | h
            · obtain ⟨h1, ns, h2, h3⟩ := all6 u h
              have uF : u ≠ F := by rintro rfl; rw [hf6] at h2; cases h2
              exact ⟨h1, ns, by rw [upd_ne uF]; exact h2, h3⟩
            · rw [List.mem_singleton] at h
              subst h
              exact ⟨t0, ms, by rw [upd_ne tF]; exact ut, by omega, by omega⟩
          generalize upd H6 F (.lst (ts.map V.ref ++ [.ref t])) = H7 at *
          refine ⟨_, rfl, R, rs', rfl, SqL.of hr7, by omega, fun ms2 p2 perm2 _ hp2 => ?_⟩
          have f8 := Ex.new (o := .lst (ms2.map V.int)) hp2
          have p2F : p2 ≠ F := ne_of_none' hf7 hp2
          have ml2 := perm2.length_eq
          refine ⟨(B7.ex f8).le (by omega), k7.ex f8, ts ++ [t], p2, ms2, _, _, rfl, f8 _ _ hf7, by rw [List.length_append, List.length_singleton]; omega, fun u hu => ?_, fun _ e => ?_, upd_same, but_fresh k7 hB B7 hp2, p2F, by omega⟩
          · obtain ⟨h1, ns, h2, h3⟩ := all7 u hu
            exact ⟨h1, ns, f8 _ _ h2, h3⟩
          · rw [e] at hll
            rw [List.length_nil] at hll
            omega
      · refine ⟨B3.le (by omega), k3, ts, Lp, ls, _, _, rfl, hf3, by omega, fun t ht => ?_, hne, hLp3, Lp0, LF, hll⟩
        obtain ⟨h1, ns, h2, h3⟩ := all2 t ht
        exact ⟨h1, ns, e3 _ _ h2, h3⟩
    refine ite2 (fun _ => ?_) (fun _ => ?_)
    · refine ⟨_, rfl, _, rfl, g, rfl, Lp, _, rfl, SqL.of hLp2, fun R hR => ?_⟩
      obtain ⟨k, rfl⟩ : ∃ k : Nat, g = (k : Int) := ⟨g.toNat, by omega⟩
      rw [cut_from, ← List.map_drop]
      exact body R (ls.drop k) _ hR (Ex.new hR) upd_same (by rw [List.length_drop]; omega)
    · exact ⟨_, rfl, Lp, _, rfl, .inl (SqL.of hLp2), fun R hR => body R ls _ hR (Ex.new hR) upd_same (Nat.le_refl _)⟩
  · rintro σ H1 ⟨B1, k1, ts, Lp, ls, v6, v7, rfl, hf, hlen, all, hne, hLp, Lp0, LF, hll⟩
    rw [List.length_map] at hlen B1
    exact ⟨_, rfl, q F ts H1 F0 hf (by omega) all hne (B1.le (by omega)) k1⟩
end
end L2.U


set_option Elab.async false
set_option linter.all false
set_option maxRecDepth 100000
set_option maxHeartbeats 4000000
namespace L2.U
open PySem PySem.Spec PyProof.Rows Evl


section
variable {P : Program} {w : World} {K : PySem.W.Frag} {mg : Str → Option Value} {base : Heap}
theorem Rd.flat {ok ok' : Addr → Prop} {H H' : Hp} {x : V} {d : PyData} {m : Nat} (h : Rd K ok H 0 x d) : Rd K ok' H' m x d := by
  cases h with
  | non => exact .non
  | bl b => exact .bl b
  | int i => exact .int i
  | str z h h2 => exact .str z h h2
theorem one_le : 1 ≤ sizeLine := by decide
/-- items[:i] + [..] + items[j:], the middle one made there -/
theorem mid_run {σ : L2.St} {H : Hp} {a : Addr} {i j : Int} {ta te tf tg : TE} {xs : List V} {ok : Addr → Prop} {Q : VK} (h : Ev ta σ H (.ref a)) (hs : SqL K H a xs) (h1 : Ev te σ H (.int i)) (h3 : Ev tg σ H (.int j)) (hl : xs.length ≤ 400)
    (hf : ∀ H1, Ex H H1 → ∀ Q : VK, (∀ x d H2, Ex H1 H2 → Rd K ok H2 1 x d → Q x H2) → tf σ H1 Q)
    (k : ∀ p x d G, Ex H G → H p = none → Rd K ok G 1 x d → G p = some (.lst (cutV xs none (some i) ++ [x] ++ cutV xs (some j) none)) → Q (.ref p) G) :
    tOp rCat (tOp rCat (tSl (rSlL K) ta tNoPart (tPart te)) (tLst (tCons tf tNil))) (tSl (rSlL K) ta (tPart tg) tNoPart) σ H Q := by
  have c1 := @cutV_len xs none (some i)
  have c2 := @cutV_len xs (some j) none
  refine (el_sl h eo_none (eo_some h1) hs) H (Ex.refl _) _ fun p1 H1 hp1 e1 u1 => ?_
  refine hf H1 e1 _ fun x d H2 e2 g2 => ⟨one_le, fun p2 hp2 => ?_⟩
  have e3 := Ex.new (o := .lst [x]) hp2
  refine ⟨p1, p2, _, _, rfl, rfl, e3 _ _ (e2 _ _ u1), upd_same, sz_of (by show _ + 1 ≤ 100000; omega), fun p3 hp3 => ?_⟩
  have e4 := Ex.new (o := .lst (cutV xs none (some i) ++ [x])) hp3
  have e14 := e1.trans (e2.trans (e3.trans e4))
  refine (el_sl (h.mono e14) (eo_some (h3.mono e14)) eo_none (ex_l e14 hs)) _ (Ex.refl _) _ fun p4 H5 hp4 e5 u5 => ?_
  refine ⟨p3, p4, _, _, rfl, rfl, e5 _ _ upd_same, u5, sz_of (by rw [List.length_append]; show _ + 1 + _ ≤ 100000; omega), fun p5 hp5 => ?_⟩
  have e6 := Ex.new (o := .lst (cutV xs none (some i) ++ [x] ++ cutV xs (some j) none)) hp5
  exact k p5 x d _ (e14.trans (e5.trans e6)) (fresh_back (e14.trans e5) hp5) (g2.ex (e3.trans (e4.trans (e5.trans e6)))) upd_same
theorem refs_at {ts : List Addr} {i : Int} (h0 : 0 ≤ i) (h : i < ((ts.map V.ref).length : Int)) : ∃ t, atI (ts.map V.ref) i = some (.ref t) ∧ t ∈ ts := by
  obtain ⟨v, hv, hg⟩ := at_get h0 h
  rw [List.getElem?_map] at hg
  cases e : ts[i.toNat]? with
  | none => rw [e] at hg; cases hg
  | some t =>
    rw [e] at hg
    obtain rfl := Option.some.inj hg
    exact ⟨t, hv, List.mem_of_getElem? e⟩
theorem ints_at {ns : List Int} {i : Int} (h0 : 0 ≤ i) (h : i < (ns.length : Int)) : ∃ z, atI (ns.map V.int) i = some (.int z) := by
  obtain ⟨v, hv, hg⟩ := at_get (xs := ns.map V.int) h0 (by rw [List.length_map]; exact h)
  obtain ⟨z, _, rfl⟩ := ints_get hg
  exact ⟨z, hv⟩
def spSpRounds (K : PySem.W.Frag) : Sp := fun vs H Q _ => ∃ (b r a : Addr) (n : Nat) (ok : Addr → Prop) (ts : List Addr) (ks : List Int), vs = [.ref b, .ref r, .ref a] ∧ BoxAt H b (n + 8) ∧ (∀ a, ok a → a ≠ b) ∧ H r = some (.lst (ts.map V.ref)) ∧ ok r ∧ ts.length ≤ 4 ∧ (∀ t ∈ ts, ok t ∧ Tup3 H t) ∧ H a = some (.lst (ks.map V.int)) ∧ ok a ∧ ks.length ≤ 16 ∧ (ts ≠ [] → ks ≠ []) ∧
  ∀ y e H', RdA K (fun a => ok a ∨ H a = none) H' 2 y e → BoxAt H' b n → But b H H' → Q y H'
theorem ok_law_spoilt_rounds (T : TK K mg) : FnOk P w K mg base CX0 3 T.law_spoilt_rounds.a T.law_spoilt_rounds.fd ["box", "rounds", "kinds"] (spSpRounds K) := by
  refine T.law_spoilt_rounds.F.ok sc_law_spoilt_rounds (fun vs H Q E h => ?_) (fun cdv A outer s H vs Q E hr h => ?_)
  · obtain ⟨b, r, a, n, ok, ts, ks, rfl, _⟩ := h; rfl
  obtain ⟨b, r, a, n, ok, ts, ks, rfl, hB, okb, hr0, or, lt, all, ha, oa, la, hne, q⟩ := h
  refine ⟨_, (pss_cons (ps_set (i := 3) sc_law_spoilt_rounds.nd rfl (Or.inl rfl) (pe_call (ok_law_take T.toTA1) (hr.mono (by decide)) rfl T.law_take.m T.law_take.F.kp T.law_take.b .nil pass0 (pa_cons (pv 0) (pa_cons pe_int pa_nil))))
    (pss_cons (ps_if (PW.pt (pw_or (pt_cmpR (keqD K hr.units) (pv 1) (pe_lst pa_nil) (nomark _)) (pw_or1 (pt_cmpR op_eq (pv 3) pe_int (nomark _))))) (pss_one (ps_ret (pe_ix (kixl K) (pe_lst (pa_cons (pe_call (ok_law_odd T) (hr.mono (by decide)) rfl T.law_odd.m T.law_odd.F.kp T.law_odd.b .nil pass0 (pa_cons (pv 0) pa_nil)) (pa_cons (pv 1) (pa_cons (pe_tup (pa_cons (pe_lst (pa_cons pe_int pa_nil)) pa_nil)) (pa_cons (pe_tup (pa_cons (pe_tup pa_nil) pa_nil)) (pa_cons (pe_tup (pa_cons pe_non pa_nil)) (pa_cons pe_int pa_nil))))))) (pe_call (ok_law_take T.toTA1) (hr.mono (by decide)) rfl T.law_take.m T.law_take.F.kp T.law_take.b .nil pass0 (pa_cons (pv 0) (pa_cons pe_int pa_nil))) (fun _ _ => rfl)))) pss_nil)
    (pss_cons (ps_set (i := 4) sc_law_spoilt_rounds.nd rfl (Or.inl rfl) (pe_call (ok_law_take T.toTA1) (hr.mono (by decide)) rfl T.law_take.m T.law_take.F.kp T.law_take.b .nil pass0 (pa_cons (pv 0) (pa_cons (pe_callB (klen K) (by rfl) T.z_len (by decide +kernel) (pa_cons (pv 1) pa_nil)) pa_nil))))
    (pss_cons (ps_set (i := 5) sc_law_spoilt_rounds.nd rfl (Or.inl rfl) (pe_callTy (klist K) (by rfl) T.z_list (by decide +kernel) (pa_cons (pe_ix (kixl K) (pv 1) (pv 4) (fun _ _ => rfl)) pa_nil)))
    (pss_cons (ps_par (i := 6) (j := 7) (by rfl) sc_law_spoilt_rounds.nd rfl rfl (by decide) rfl rfl (pa_cons (pe_call (ok_law_take T.toTA1) (hr.mono (by decide)) rfl T.law_take.m T.law_take.F.kp T.law_take.b .nil pass0 (pa_cons (pv 0) (pa_cons (pe_callB (klen K) (by rfl) T.z_len (by decide +kernel) (pa_cons (pv 5) pa_nil)) pa_nil))) (pa_cons (pe_ix (kixl K) (pv 1) (pe_call (ok_law_take T.toTA1) (hr.mono (by decide)) rfl T.law_take.m T.law_take.F.kp T.law_take.b .nil pass0 (pa_cons (pv 0) (pa_cons (pe_callB (klen K) (by rfl) T.z_len (by decide +kernel) (pa_cons (pv 1) pa_nil)) pa_nil))) (fun _ _ => rfl)) pa_nil)) (by rfl))
    (pss_cons (ps_set (i := 8) sc_law_spoilt_rounds.nd rfl (Or.inl rfl) (pe_ix (kixl K) (pe_lst (pa_cons pe_int (pa_cons pe_int (pa_cons pe_bl (pa_cons pe_non (pa_cons pe_str (pa_cons (pe_ix (kixl K) (pv 5) (pv 6) (fun _ _ => rfl)) (pa_cons (pe_ix (kixt K) (pv 7) (pe_op op_sub (pe_callB (klen K) (by rfl) T.z_len (by decide +kernel) (pa_cons (pv 7) pa_nil)) pe_int) (fun _ _ => rfl)) (pa_cons pe_int (pa_cons (pe_ix (kixl K) (pv 2) pe_int (fun _ _ => rfl)) (pa_cons (pe_ix (kixl K) (pv 2) (pe_op op_sub (pe_callB (klen K) (by rfl) T.z_len (by decide +kernel) (pa_cons (pv 2) pa_nil)) pe_int) (fun _ _ => rfl)) pa_nil))))))))))) (pe_call (ok_law_take T.toTA1) (hr.mono (by decide)) rfl T.law_take.m T.law_take.F.kp T.law_take.b .nil pass0 (pa_cons (pv 0) (pa_cons pe_int pa_nil))) (fun _ _ => rfl)))
    (pss_cons (ps_if (pt_cmpR op_eq (pv 3) pe_int (nomark _)) (pss_one (ps_ret (pe_callTy (ktuple K) (by rfl) T.z_tuple (by decide +kernel) (pa_cons (pe_op op_cat (pe_op op_cat (pe_slice (kslL K) (pv 1) po_none (po_some (pv 4))) (pe_lst (pa_cons (pv 5) pa_nil))) (pe_slice (kslL K) (pv 1) (po_some (pe_op op_add (pv 4) pe_int)) po_none)) pa_nil)))) pss_nil)
    (pss_cons (ps_if (pt_cmpR op_eq (pv 3) pe_int (nomark _)) (pss_one (ps_ret (pe_callTy (ktuple K) (by rfl) T.z_tuple (by decide +kernel) (pa_cons (pe_op op_cat (pe_op op_cat (pe_slice (kslL K) (pv 1) po_none (po_some (pv 4))) (pe_lst (pa_cons (pe_tup pa_nil) pa_nil))) (pe_slice (kslL K) (pv 1) (po_some (pv 4)) po_none)) pa_nil)))) pss_nil)
    (pss_cons (ps_if (pt_cmpR op_eq (pv 3) pe_int (nomark _)) (pss_one (ps_ret (pe_callTy (ktuple K) (by rfl) T.z_tuple (by decide +kernel) (pa_cons (pe_op op_cat (pv 1) (pe_lst (pa_cons (pv 7) pa_nil))) pa_nil)))) pss_nil)
    (pss_cons (ps_if (pt_cmpR op_eq (pv 3) pe_int (nomark _)) (pss_one (ps_ret (pe_callTy (ktuple K) (by rfl) T.z_tuple (by decide +kernel) (pa_cons (pe_op op_cat (pe_op op_cat (pe_slice (kslL K) (pv 1) po_none (po_some (pv 4))) (pe_lst (pa_cons (pe_callTy (ktuple K) (by rfl) T.z_tuple (by decide +kernel) (pa_cons (pe_revL (pv 5)) pa_nil)) pa_nil))) (pe_slice (kslL K) (pv 1) (po_some (pe_op op_add (pv 4) pe_int)) po_none)) pa_nil)))) pss_nil)
    (pss_cons (ps_if (pt_cmpR op_lt (pv 3) pe_int (nomark _)) (pss_one (ps_ret (pe_callTy (ktuple K) (by rfl) T.z_tuple (by decide +kernel) (pa_cons (pe_lc (own := [("kind", 9)]) (g := gName 9) (by rfl) sc_law_spoilt_rounds.nd (kpil K (pe_slice (kslL K) (pv 2) po_none (po_some (pe_op op_add pe_int (pe_call (ok_law_take T.toTA1) (hr.mono (by decide)) rfl T.law_take.m T.law_take.F.kp T.law_take.b .nil pass0 (pa_cons (pv 0) (pa_cons pe_int pa_nil))))))) (blkOk_by (own := [("kind", 9)]) (N := ["box", "rounds", "kinds", "way", "at", "one", "place", "other", "odd", "kind"]) (sc := defScope s_law_spoilt_rounds) (by decide +kernel)) (fun _ _ _ _ _ => (pg_name (i := 9) sc_law_spoilt_rounds.nd rfl (Or.inl rfl))) (fun _ _ _ _ _ => pts_nil) (fun _ _ _ _ _ => (pe_tup (pa_cons (pv 9) pa_nil)))) pa_nil)))) pss_nil)
    (pss_cons (ps_if (pt_cmpR op_eq (pv 3) pe_int (nomark _)) (pss_one (ps_ret (pe_callTy (ktuple K) (by rfl) T.z_tuple (by decide +kernel) (pa_cons (pe_op op_cat (pe_op op_cat (pe_slice (kslL K) (pv 1) po_none (po_some (pv 4))) (pe_lst (pa_cons (pe_callTy (ktuple K) (by rfl) T.z_tuple (by decide +kernel) (pa_cons (pe_op op_cat (pv 5) (pe_lst (pa_cons (pv 8) pa_nil))) pa_nil)) pa_nil))) (pe_slice (kslL K) (pv 1) (po_some (pe_op op_add (pv 4) pe_int)) po_none)) pa_nil)))) pss_nil)
    (pss_one (ps_ret (pe_callTy (ktuple K) (by rfl) T.z_tuple (by decide +kernel) (pa_cons (pe_op op_cat (pe_op op_cat (pe_slice (kslL K) (pv 1) po_none (po_some (pv 4))) (pe_lst (pa_cons (pe_callTy (ktuple K) (by rfl) T.z_tuple (by decide +kernel) (pa_cons (pe_op op_cat (pe_op op_cat (pe_slice (kslL K) (pv 5) po_none (po_some (pv 6))) (pe_lst (pa_cons (pv 8) pa_nil))) (pe_slice (kslL K) (pv 5) (po_some (pe_op op_add (pv 6) pe_int)) po_none)) pa_nil)) pa_nil))) (pe_slice (kslL K) (pv 1) (po_some (pe_op op_add (pv 4) pe_int)) po_none)) pa_nil)))))))))))))))), ?_⟩
  refine ⟨_, rfl, b, 11, n + 7, rfl, by decide, by decide, hB, fun way H1 w0 w1 B1 k1 => ?_⟩
  have ok2 : ∀ a, (ok a ∨ H a = none) → a ≠ b := fun a h => h.elim (okb a) (box_ne hB)
  have rb := okb r or
  have ab := okb a oa
  -- what a tuple of the rounds is, later
  have tupAt : ∀ {G : Hp}, But b H G → ∀ t ∈ ts, Tup3 G t := fun k t ht => by
    obtain ⟨o, ns, h1, h2⟩ := all t ht
    exact ⟨ns, k _ _ (okb t o) h1, h2⟩
  have dsAt : ∀ {G : Hp}, But b H G → Ds K (fun a => ok a ∨ H a = none) G 1 (ts.map V.ref) := fun k => tup3_ds fun t ht => ⟨.inl (all t ht).1, tupAt k t ht⟩
  -- the first way out
  have body : ∀ G, BoxAt G b (n + 7) → But b H G → tOp (rIxL K) (tLst (tCons (tCall (spOdd K) [] E0 (tCons (tVar 0) tNil)) (tCons (tVar 1) (tCons (tTup (tCons (tLst (tCons (tC (.int 1)) tNil)) tNil)) (tCons (tTup (tCons (tTup tNil) tNil)) (tCons (tTup (tCons (tC .non) tNil)) (tCons (tC (.int 7)) tNil))))))) (tCall spTake [] E0 (tCons (tVar 0) (tCons (tC (.int 6)) tNil)))
      [some (.ref b), some (.ref r), some (.ref a), some (.int way), none, none, none, none, none, none] G Q := by
    intro G B k
    refine ⟨_, rfl, b, n + 6, rfl, B, fun x d G1 rx C1 l1 => ⟨_, rfl, one_le, fun p1 h1 => ⟨one_le, fun p2 h2 => ⟨Nat.zero_le _, fun p3 h3 => ⟨one_le, fun p4 h4 => ⟨one_le, fun p5 h5 => ⟨(by show 6 ≤ sizeLine; decide), fun L hL => ?_⟩⟩⟩⟩⟩⟩⟩
    have kk := k.trans l1
    have hr1 := kk _ _ rb hr0
    have y1 : Ex G1 (upd G1 p1 (.lst [.int 1])) := Ex.new h1
    have u1 : upd G1 p1 (.lst [.int 1]) p1 = some (.lst [.int 1]) := upd_same
    generalize upd G1 p1 (.lst [.int 1]) = D1 at *
    have y2 : Ex D1 (upd D1 p2 (.tup [.ref p1])) := Ex.new h2
    have u2 : upd D1 p2 (.tup [.ref p1]) p2 = some (.tup [.ref p1]) := upd_same
    generalize upd D1 p2 (.tup [.ref p1]) = D2 at *
    have y3 : Ex D2 (upd D2 p3 (.tup [])) := Ex.new h3
    have u3 : upd D2 p3 (.tup []) p3 = some (.tup []) := upd_same
    generalize upd D2 p3 (.tup []) = D3 at *
    have y4 : Ex D3 (upd D3 p4 (.tup [.ref p3])) := Ex.new h4
    have u4 : upd D3 p4 (.tup [.ref p3]) p4 = some (.tup [.ref p3]) := upd_same
    generalize upd D3 p4 (.tup [.ref p3]) = D4 at *
    have y5 : Ex D4 (upd D4 p5 (.tup [.non])) := Ex.new h5
    have u5 : upd D4 p5 (.tup [.non]) p5 = some (.tup [.non]) := upd_same
    generalize upd D4 p5 (.tup [.non]) = D5 at *
    have y6 : Ex D5 (upd D5 L (.lst [x, .ref r, .ref p2, .ref p4, .ref p5, .int 7])) := Ex.new hL
    have z4 := y5.trans y6
    have z3 := y4.trans z4
    have z2 := y3.trans z3
    have z1 := y2.trans z2
    have z0 := y1.trans z1
    have fr : ∀ {p}, G1 p = none → (ok p ∨ H p = none) := fun h => .inr (but_fresh kk hB C1 h)
    have f1 := fr h1
    have f2 := fr (fresh_back y1 h2)
    have f3 := fr (fresh_back (y1.trans y2) h3)
    have f4 := fr (fresh_back ((y1.trans y2).trans y3) h4)
    have f5 := fr (fresh_back (((y1.trans y2).trans y3).trans y4) h5)
    have CL := C1.ex z0
    have LB : L ≠ b := (C1.ex (((y1.trans y2).trans (y3.trans y4)).trans y5)).ne hL
    generalize hG6 : upd D5 L (.lst [x, .ref r, .ref p2, .ref p4, .ref p5, .int 7]) = D6 at *
    have uL : D6 L = some (.lst [x, .ref r, .ref p2, .ref p4, .ref p5, .int 7]) := by rw [← hG6]; exact upd_same
    obtain ⟨d1, r1⟩ := (dsAt (kk.ex z0)).lst ((kk.ex z0) _ _ rb hr0) (.inl or) (by rw [List.length_map]; omega)
    obtain ⟨e1, s1⟩ := (Ds.ints (K := K) (ok := fun a => ok a ∨ H a = none) (H := D6) (n := 0) [1]).lst (z1 _ _ u1) f1 (by decide)
    obtain ⟨e2, s2⟩ := (Ds.one s1).tup (SqT.of (z2 _ _ u2)) f2 (by show 1 ≤ 900; decide)
    obtain ⟨e3, s3⟩ := (Ds.nil (K := K) (ok := fun a => ok a ∨ H a = none) (H := D6) (n := 0)).tup (SqT.of (z3 _ _ u3)) f3 (by decide)
    obtain ⟨e4, s4⟩ := (Ds.one s3).tup (SqT.of (z4 _ _ u4)) f4 (by show 1 ≤ 900; decide)
    obtain ⟨e5, s5⟩ := (Ds.one (Rd.non (K := K) (ok := fun a => ok a ∨ H a = none) (H := D6) (n := 1))).tup (SqT.of (y6 _ _ u5)) f5 (by decide)
    have rx6 : RdA K (fun a => ok a ∨ H a = none) D6 2 x d := (rx.ex z0).of fun a ha => .inr (but_fresh k hB B ha)
    have lst : RdLA K (fun a => ok a ∨ H a = none) D6 2 [x, .ref r, .ref p2, .ref p4, .ref p5, .int 7] [d, d1, e2, e4, e5, .int 7] := .cons rx6 (.cons (.inl r1) (.cons (.inl s2) (.cons (.inl s4) (.cons (.inl s5) (.cons (.inl (.int 7)) .nil)))))
    refine ⟨_, rfl, b, 6, n + 5, rfl, by decide, by decide, CL, fun i G8 i0 i1 B8 k8 => ?_⟩
    obtain ⟨y, e, hat, ry⟩ := lst.get i0 (show i < 6 from i1)
    exact ⟨_, _, _, _, rfl, rfl, SqL.of (k8 _ _ LB uL), hat, q y e G8 (ry.but k8 ok2) (B8.le (by omega)) ((kk.ex z0).trans k8)⟩
  have hr1 := k1 _ _ rb hr0
  refine ⟨_, rfl, Nat.zero_le _, fun e he => ?_⟩
  have x1 := Ex.new (o := .lst []) he
  obtain ⟨ds, hds⟩ := dsAt (k1.ex x1)
  have hr1' := x1 _ _ hr1
  have rr : Rd K (fun a => ok a ∨ H a = none) (upd H1 e (.lst [])) 2 (.ref r) (.list ds) := .lst hr1' (.inl or) hds.1 (by rw [List.length_map]; omega) hds.2
  refine ⟨.list ds, .list [], rr.dp, .lst (SqL.of upd_same) .nil, rr.shaped (by omega), rfl, ?_⟩
  have B2 := B1.ex x1
  have k2 := k1.ex x1
  have dl := hds.1
  rw [List.length_map] at dl
  generalize upd H1 e (.lst []) = H2 at *
  clear hr1' he x1 rr hds
  match ds, dl with
  | [], dl => exact ⟨true, rfl, iteT (body H2 B2 k2)⟩
  | d0 :: dr, dl =>
  refine ⟨false, rfl, iteF ⟨_, rfl, rfl, _, rfl, ite2 (fun _ => body H2 B2 k2) (fun _ => ?_)⟩⟩
  clear body
  have tpos : 0 < ts.length := by rw [dl]; exact Nat.succ_pos _
  have kpos : 0 < ks.length := List.length_pos_iff.mpr (hne (List.length_pos_iff.mp tpos))
  have hr2 := k2 _ _ rb hr0
  refine ⟨_, rfl, _, rfl, _, _, rfl, .inl ⟨_, SqL.of hr2, rfl⟩, b, _, n + 6, rfl, by rw [List.length_map]; omega, by rw [List.length_map]; omega, B2, fun at_ H3 a0 a1 B3 k3' => ?_⟩
  have k3 := k2.trans k3'
  have hr3 := k3 _ _ rb hr0
  obtain ⟨t, hat, htm⟩ := refs_at a0 a1
  obtain ⟨ns, ht, n1, n3⟩ := tupAt k3 t htm
  refine ⟨_, rfl, _, rfl, _, _, _, _, rfl, rfl, SqL.of hr3, hat, t, _, rfl, .inr (SqT.of ht), fun O hO => ?_⟩
  have x4 := Ex.new (o := .lst (ns.map V.int)) hO
  have uO : upd H3 O (.lst (ns.map V.int)) O = some (.lst (ns.map V.int)) := upd_same
  have B4 := B3.ex x4
  have k4 := k3.ex x4
  have Ob : O ≠ b := B3.ne hO
  have O0 : H O = none := but_fresh k3 hB B3 hO
  generalize upd H3 O (.lst (ns.map V.int)) = H4 at *
  refine ⟨_, rfl, _, rfl, _, _, rfl, .inl ⟨_, SqL.of uO, rfl⟩, b, _, n + 5, rfl, by rw [List.length_map]; omega, by rw [List.length_map]; omega, B4, fun pl H5 p0 p1 B5 k5' => ?_⟩
  rw [List.length_map] at p1
  have k5 := k4.trans k5'
  have uO5 := k5' _ _ Ob uO
  have hr5 := k5 _ _ rb hr0
  refine ⟨_, rfl, _, rfl, _, rfl, _, _, rfl, .inl ⟨_, SqL.of hr5, rfl⟩, b, _, n + 4, rfl, by rw [List.length_map]; omega, by rw [List.length_map]; omega, B5, fun r6 H6 c0 c1 B6 k6' => ?_⟩
  have k6 := k5.trans k6'
  have uO6 := k6' _ _ Ob uO5
  have hr6 := k6 _ _ rb hr0
  have ha6 := k6 _ _ ab ha
  obtain ⟨t2, hat2, htm2⟩ := refs_at c0 c1
  obtain ⟨ns2, ht2, m1, m3⟩ := tupAt k6 t2 htm2
  refine ⟨_, _, _, _, rfl, rfl, SqL.of hr6, hat2, _, _, rfl, ?_⟩
  obtain ⟨z1, hz1⟩ := ints_at p0 p1
  obtain ⟨z2, hz2⟩ := ints_at (ns := ns2) (i := (((ns2.map V.int).length : Nat) : Int) - 1) (by rw [List.length_map]; omega) (by rw [List.length_map]; omega)
  obtain ⟨z3, hz3⟩ := ints_at (ns := ks) (i := 0) (by omega) (by omega)
  obtain ⟨z4, hz4⟩ := ints_at (ns := ks) (i := (((ks.map V.int).length : Nat) : Int) - 1) (by rw [List.length_map]; omega) (by rw [List.length_map]; omega)
  refine ⟨_, rfl, _, rfl, _, _, _, _, rfl, rfl, SqL.of uO6, hz1, _, rfl, _, rfl, _, _, rfl, .inr ⟨_, SqT.of ht2, rfl⟩, _, _, rfl, rfl, _, _, _, _, rfl, rfl, SqT.of ht2, hz2, _, rfl, _, _, _, _, rfl, rfl, SqL.of ha6, hz3, _, rfl, _, rfl, _, _, rfl, .inl ⟨_, SqL.of ha6, rfl⟩, _, _, rfl, rfl, _, _, _, _, rfl, rfl, SqL.of ha6, hz4, (by show 10 ≤ sizeLine; decide), fun L hL => ?_⟩
  have x7 := Ex.new (o := .lst [.int 65, .int 0, .bl true, .non, .str "1", .int z1, .int z2, .int 64, .int z3, .int z4]) hL
  have LB : L ≠ b := B6.ne hL
  refine ⟨_, rfl, b, 10, n + 3, rfl, by decide, by decide, B6.ex x7, fun r8 H8 e0 e1 B8 k8' => ?_⟩
  have dsO : Ds K (fun a => ok a ∨ H a = none) H8 0 [.int 65, .int 0, .bl true, .non, .str "1", .int z1, .int z2, .int 64, .int z3, .int z4] :=
    ⟨[.int 65, .int 0, .bool true, .none, .str "1", .int z1, .int z2, .int 64, .int z3, .int z4], .cons (.int _) (.cons (.int _) (.cons (.bl _) (.cons .non (.cons (.str _ (by decide +kernel) (by decide +kernel)) (.cons (.int _) (.cons (.int _) (.cons (.int _) (.cons (.int _) (.cons (.int _) .nil)))))))))⟩
  obtain ⟨x, d, hatx, rx⟩ := dsO.get e0 (show r8 < 10 from e1)
  refine ⟨_, _, _, _, rfl, rfl, SqL.of (k8' _ _ LB upd_same), hatx, ?_⟩
  have k8 := (k6.ex x7).trans k8'
  have uO8 := k8' _ _ Ob (x7 _ _ uO6)
  have hr8 := k8 _ _ rb hr0
  have ha8 := k8 _ _ ab ha
  have fin : ∀ (G : Hp) (xs : List V), Ex H8 G → Ds K (fun a => ok a ∨ H a = none) G 1 xs → xs.length ≤ 900 → ∀ t, G t = none → Q (.ref t) (upd G t (.tup xs)) := by
    intro G xs e dx lx t ht
    have e2 := Ex.new (o := .tup xs) ht
    obtain ⟨d', rd⟩ := (dx.ex e2).tup (SqT.of upd_same) (.inr (but_fresh (k8.ex e) hB (B8.ex e) ht)) lx
    exact q _ d' _ (.inl rd) (((B8.ex e).ex e2).le (by omega)) ((k8.ex e).ex e2)
  have mid : ∀ {tf tg : TE} {j : Int}, Ev tg [some (.ref b), some (.ref r), some (.ref a), some (.int way), some (.int at_), some (.ref O), some (.int pl), some (.ref t2), some x, none] H8 (.int j) →
      (∀ H1, Ex H8 H1 → ∀ Q : VK, (∀ x d H2, Ex H1 H2 → Rd K (fun a => ok a ∨ H a = none) H2 1 x d → Q x H2) → tf [some (.ref b), some (.ref r), some (.ref a), some (.int way), some (.int at_), some (.ref O), some (.int pl), some (.ref t2), some x, none] H1 Q) →
      tCB (rTupOf K) (tCons (tOp rCat (tOp rCat (tSl (rSlL K) (tVar 1) tNoPart (tPart (tVar 4))) (tLst (tCons tf tNil))) (tSl (rSlL K) (tVar 1) (tPart tg) tNoPart)) tNil) [some (.ref b), some (.ref r), some (.ref a), some (.int way), some (.int at_), some (.ref O), some (.int pl), some (.ref t2), some x, none] H8 Q := by
    intro tf tg j hg hf
    refine mid_run (K := K) (xs := ts.map V.ref) (ev_var rfl) (SqL.of hr8) (ev_var rfl) hg (by rw [List.length_map]; omega) hf fun p x d G e hp rd hx => ?_
    have ml := @mid_len (ts.map V.ref) x at_ j
    rw [List.length_map] at ml
    exact ⟨p, _, rfl, .inl ⟨SqL.of hx, fun t ht => fin G _ e (mid_ds (dsAt (k8.ex e)) rd) (by omega) t ht⟩⟩
  refine ⟨_, rfl, rfl, _, rfl, ite2 (fun _ => ?_) (fun _ => ?_)⟩
  · refine mid (ev_op (ev_var rfl) ev_c rv_I0) fun G e Q k => ?_
    obtain ⟨d', rd⟩ := (Ds.ints (K := K) (ok := fun a => ok a ∨ H a = none) (H := G) (n := 0) ns).lst (e _ _ uO8) (.inr O0) (by rw [List.length_map]; omega)
    exact ⟨_, rfl, k _ d' G (Ex.refl _) rd⟩
  refine ⟨_, rfl, rfl, _, rfl, ite2 (fun _ => ?_) (fun _ => ?_)⟩
  · refine mid (ev_var rfl) fun G e Q k => ⟨Nat.zero_le _, fun p hp => ?_⟩
    obtain ⟨d', rd⟩ := (Ds.nil (K := K) (ok := fun a => ok a ∨ H a = none) (H := upd G p (.tup [])) (n := 0)).tup (SqT.of upd_same) (.inr (but_fresh (k8.ex e) hB (B8.ex e) hp)) (by decide)
    exact k _ d' _ (Ex.new hp) rd
  refine ⟨_, rfl, rfl, _, rfl, ite2 (fun _ => ?_) (fun _ => ?_)⟩
  · refine ⟨_, rfl, _, rfl, one_le, fun p hp => ?_⟩
    have f1 := Ex.new (o := .lst [.ref t2]) hp
    refine ⟨r, p, _, _, rfl, rfl, f1 _ _ hr8, upd_same, sz_of (by rw [List.length_map]; show _ + 1 ≤ 100000; omega), fun p3 hp3 => ?_⟩
    have f2 := Ex.new (o := .lst (ts.map V.ref ++ [.ref t2])) hp3
    refine ⟨p3, _, rfl, .inl ⟨SqL.of upd_same, fun t ht => fin _ _ (f1.trans f2) ?_ (by rw [List.length_append, List.length_map]; show _ + 1 ≤ 900; omega) t ht⟩⟩
    have kk := k8.ex (f1.trans f2)
    have one : Ds K (fun a => ok a ∨ H a = none) (upd (upd H8 p (.lst [.ref t2])) p3 (.lst (ts.map V.ref ++ [.ref t2]))) 1 ([t2].map V.ref) := tup3_ds fun u hu => by
      rw [List.mem_singleton] at hu
      subst hu
      exact ⟨.inl (all _ htm2).1, tupAt kk _ htm2⟩
    exact (dsAt kk).app one
  refine ⟨_, rfl, rfl, _, rfl, ite2 (fun _ => ?_) (fun _ => ?_)⟩
  · refine mid (ev_op (ev_var rfl) ev_c rv_I0) fun G e Q k => ?_
    refine ⟨_, rfl, O, _, rfl, SqL.of (e _ _ uO8), fun p hp => ?_⟩
    have f1 := Ex.new (o := .lst (ns.map V.int).reverse) hp
    refine ⟨p, _, rfl, .inl ⟨SqL.of upd_same, fun t ht => ?_⟩⟩
    have f2 := Ex.new (o := .tup (ns.map V.int).reverse) ht
    have dd : Ds K (fun a => ok a ∨ H a = none) (upd (upd G p (.lst (ns.map V.int).reverse)) t (.tup (ns.map V.int).reverse)) 0 (ns.map V.int).reverse := by rw [← List.map_reverse]; exact Ds.ints _
    obtain ⟨d', rd⟩ := dd.tup (SqT.of upd_same) (.inr (but_fresh (k8.ex (e.trans f1)) hB (B8.ex (e.trans f1)) ht)) (by rw [List.length_reverse, List.length_map]; omega)
    exact k _ d' _ (f1.trans f2) rd
  refine ⟨_, rfl, _, _, rfl, rfl, _, rfl, ite2 (fun _ => ?_) (fun _ => ?_)⟩
  · refine ⟨_, rfl, _, rfl, b, 3, n + 2, rfl, by decide, by decide, B8, fun r9 H9 _ _ B9 k9' => ⟨_, _, rfl, rfl, _, rfl, a, _, rfl, SqL.of (k9' _ _ ab ha8), fun p hp => ?_⟩⟩
    obtain ⟨ms, em⟩ := cutV_ints ks none (some (2 + r9))
    have ml := @cutV_len (ks.map V.int) none (some (2 + r9))
    rw [em, List.length_map, List.length_map] at ml
    have f1 := Ex.new (o := .lst (cutV (ks.map V.int) none (some (2 + r9)))) hp
    have hx : upd H9 p (.lst (cutV (ks.map V.int) none (some (2 + r9)))) p = some (.lst (ms.map V.int)) := by rw [upd_same, em]
    have B9' := B9.ex f1
    have k9 := (k8.trans k9').ex f1
    have finX : ∀ (G : Hp) (xs : List V), But b H8 G → BoxAt G b (n + 2) → Ds K (fun a => ok a ∨ H a = none) G 1 xs → xs.length ≤ 900 → ∀ t, G t = none → Q (.ref t) (upd G t (.tup xs)) := by
      intro G xs kG BG dx lx t ht
      have e2 := Ex.new (o := .tup xs) ht
      obtain ⟨d', rd⟩ := (dx.ex e2).tup (SqT.of upd_same) (.inr (but_fresh (k8.trans kG) hB BG ht)) lx
      exact q _ d' _ (.inl rd) ((BG.ex e2).le (by omega)) ((k8.trans kG).ex e2)
    have k9'' := k9'.ex f1
    generalize upd H9 p (.lst (cutV (ks.map V.int) none (some (2 + r9)))) = HP at *
    refine ⟨p, rfl, ⟨_, SqL.of hx⟩, fun D hD => lc_list (xs := ms.map V.int) (fun i H' => Ex HP H' ∧ ∃ us : List Addr, H' D = some (.lst (us.map V.ref)) ∧ us.length = i ∧ ∀ u ∈ us, H u = none ∧ Tup3 H' u) ⟨Ex.new hD, [], upd_same, rfl, fun u hu => by cases hu⟩ (fun i H' _ pp => SqL.of (pp.1 _ _ hx)) ?_ ?_⟩
    · rintro i y H' hy ⟨e, us, hd, hl, al⟩
      obtain ⟨z, hz, rfl⟩ := ints_get hy
      have hi := (List.getElem?_eq_some_iff.mp hz).1
      refine ⟨rfl, tyes ?_⟩
      refine ⟨_, rfl, one_le, fun t ht => ?_⟩
      have f2 := Ex.new (o := .tup [.int z]) ht
      have tD : t ≠ D := ne_of_none' hd ht
      have ut : upd H' t (.tup [.int z]) t = some (.tup [.int z]) := upd_same
      have t0 : H t = none := but_fresh (k9.ex e) hB (B9'.ex e) ht
      refine ⟨_, f2 _ _ hd, small1000 (by rw [List.length_map]; omega), (e.trans f2).mut hD, us ++ [t], by rw [upd_same, List.map_append]; rfl, by rw [List.length_append, hl]; rfl, fun u hu => ?_⟩
      rcases List.mem_append.mp hu with h | h
      · obtain ⟨h1, ns', h2, h3⟩ := al u h
        have uD : u ≠ D := by rintro rfl; rw [hd] at h2; cases h2
        exact ⟨h1, ns', by rw [upd_ne uD]; exact f2 _ _ h2, h3⟩
      · rw [List.mem_singleton] at h
        subst h
        exact ⟨t0, [z], by rw [upd_ne tD]; exact ut, by show 1 ≤ 1; decide, by show 1 ≤ 3; decide⟩
    · rintro H' ⟨e, us, hd, hl, al⟩
      rw [List.length_map] at hl
      exact ⟨D, _, rfl, .inl ⟨SqL.of hd, fun t ht => finX _ _ (k9''.ex e) (B9'.ex e) (tup3_ds fun u hu => ⟨.inr (al u hu).1, (al u hu).2⟩) (by rw [List.length_map]; omega) t ht⟩⟩
  have tupX : ∀ {tx : TE} {xs : List V}, EvL tx [some (.ref b), some (.ref r), some (.ref a), some (.int way), some (.int at_), some (.ref O), some (.int pl), some (.ref t2), some x, none] H8 xs → (∀ G, Ds K (fun a => ok a ∨ H a = none) G 0 xs) → xs.length ≤ 900 →
      ∀ G, Ex H8 G → ∀ Q : VK, (∀ x d H2, Ex G H2 → Rd K (fun a => ok a ∨ H a = none) H2 1 x d → Q x H2) → tCB (rTupOf K) (tCons tx tNil) [some (.ref b), some (.ref r), some (.ref a), some (.int way), some (.int at_), some (.ref O), some (.int pl), some (.ref t2), some x, none] G Q := by
    intro tx xs ev dx lx G e Q k
    refine ev G e (fun v H2 => rTupOf K [v] H2 Q) fun p H2 hp e2 hx => ⟨p, xs, rfl, .inl ⟨SqL.of hx, fun t ht => ?_⟩⟩
    have f2 := Ex.new (o := .tup xs) ht
    obtain ⟨d', rd⟩ := (dx (upd H2 t (.tup xs))).tup (SqT.of upd_same) (.inr (but_fresh (k8.ex (e.trans e2)) hB (B8.ex (e.trans e2)) ht)) lx
    exact k _ d' _ (e2.trans f2) rd
  have onex : ∀ G, Ds K (fun a => ok a ∨ H a = none) G 0 [x] := fun G => Ds.one rx.flat
  refine ⟨_, rfl, rfl, _, rfl, ite2 (fun _ => ?_) (fun _ => ?_)⟩
  · refine mid (ev_op (ev_var rfl) ev_c rv_I0) (tupX (xs := ns.map V.int ++ [x]) ?_ (fun G => (Ds.ints ns).app (onex G)) (by rw [List.length_append, List.length_map]; show _ + 1 ≤ 900; omega))
    intro G e Q k
    refine ⟨_, rfl, _, rfl, one_le, fun p hp => ?_⟩
    have f1 := Ex.new (o := .lst [x]) hp
    exact ⟨O, p, _, _, rfl, rfl, f1 _ _ (e _ _ uO8), upd_same, sz_of (by rw [List.length_map]; show _ + 1 ≤ 100000; omega), fun l hl => k l _ (fresh_back f1 hl) (f1.trans (Ex.new hl)) upd_same⟩
  · have ml := @mid_len (ns.map V.int) x pl (pl + 1)
    rw [List.length_map] at ml
    exact mid (ev_op (ev_var rfl) ev_c rv_I0) (tupX (xs := cutV (ns.map V.int) none (some pl) ++ [x] ++ cutV (ns.map V.int) (some (pl + 1)) none) (el_mid (ev_var rfl) (SqL.of uO8) (ev_var rfl) (ev_var rfl) (ev_op (ev_var rfl) ev_c rv_I0) (by rw [List.length_map]; omega)) (fun G => mid_ds (Ds.ints ns) rx.flat) (by omega))
end
end L2.U


set_option Elab.async false
set_option linter.all false
set_option maxRecDepth 100000
set_option maxHeartbeats 4000000
namespace L2.U
open PySem PySem.Spec PyProof.Rows Evl


section
variable {P : Program} {w : World} {K : PySem.W.Frag} {mg : Str → Option Value} {base : Heap}
def AskAt (K : PySem.W.Frag) (ok : Addr → Prop) (H : Hp) (t : Addr) : Prop := ∃ (kind : Int) (vt : Addr) (xs : List V) (ds : List PyData), H t = some (.tup [.int kind, .ref vt]) ∧ H vt = some (.tup xs) ∧ RdLA K ok H 3 xs ds ∧ Arity kind ds.length
theorem AskAt.ex {ok : Addr → Prop} {H H' : Hp} {t : Addr} (a : AskAt K ok H t) (e : Ex H H') : AskAt K ok H' t := by
  obtain ⟨kind, vt, xs, ds, h1, h2, h3, h4⟩ := a
  exact ⟨kind, vt, xs, ds, e _ _ h1, e _ _ h2, h3.ex e, h4⟩
theorem AskAt.of {ok ok' : Addr → Prop} {H : Hp} {t : Addr} (a : AskAt K ok H t) (w : ∀ a, ok a → ok' a) : AskAt K ok' H t := by
  obtain ⟨kind, vt, xs, ds, h1, h2, h3, h4⟩ := a
  exact ⟨kind, vt, xs, ds, h1, h2, ⟨h3.1, fun i x d hx hd => (h3.2 i x d hx hd).of w⟩, h4⟩
theorem AskAt.but {ok : Addr → Prop} {H H' : Hp} {t b : Addr} {ys : List V} (a : AskAt K ok H t) (hb : H b = some (.lst ys)) (k : But b H H') (w : ∀ a, ok a → a ≠ b) : AskAt K ok H' t := by
  obtain ⟨kind, vt, xs, ds, h1, h2, h3, h4⟩ := a
  exact ⟨kind, vt, xs, ds, k _ _ (ne_of h1 hb (by intro z; cases z)) h1, k _ _ (ne_of h2 hb (by intro z; cases z)) h2, ⟨h3.1, fun i x d hx hd => (h3.2 i x d hx hd).but k w⟩, h4⟩
theorem box_list {H : Hp} {b : Addr} {n : Nat} (h : BoxAt H b n) : ∃ ys, H b = some (.lst ys) := by
  obtain ⟨d, m, c, f, hb, _⟩ := h
  exact ⟨_, hb⟩
theorem run_sizes {σ : L2.St} {H G : Hp} {b s : Addr} {n m : Nat} {ss : List Int} {l : Bool} {Q : VK} (h0 : σ[0]? = some (some (.ref b))) (h6 : σ[6]? = some (some (.ref s))) (h10 : σ[10]? = some (some (.bl l))) (hB : BoxAt H b m) (B : BoxAt G b (n + 8)) (k : But b H G) (hs : G s = some (.lst (ss.map V.int))) (s0 : H s = none) (ls : ss.length ≤ 16)
    (q : ∀ y e G', RdA K (Fr H) G' 2 y e → BoxAt G' b n → But b G G' → Q y G') : tIf (tB (tVar 10)) (tCall (spSpSizes K) [] E0 (tCons (tVar 0) (tCons (tVar 6) tNil))) (tVar 6) σ G Q := by
  refine ⟨_, h10, _, rfl, ?_⟩
  cases l with
  | true => exact iteT ⟨_, h0, _, h6, b, s, n, Fr H, ss, rfl, B, fun a h => box_ne hB h, hs, s0, ls, fun y e G' ry B' k' => q y e G' (ry.of fun c hc => hc.elim id (fun h => but_fresh k hB B h)) B' k'⟩
  | false =>
    obtain ⟨d, rd⟩ := (Ds.ints (K := K) (ok := Fr H) (H := G) (n := 1) ss).lst hs s0 (by rw [List.length_map]; omega)
    exact iteF ⟨_, h6, q _ d G (.inl rd) (B.le (by omega)) (But.of (Ex.refl _))⟩
def spLQuestion (K : PySem.W.Frag) : Sp := fun vs H Q _ => ∃ (b : Addr) (n : Nat) (kind bits : Int), vs = [.ref b, .int kind, .int bits] ∧ BoxAt H b (n + 80) ∧ 0 ≤ kind ∧ kind ≤ 6 ∧ ∀ t H', AskAt K (Fr H) H' t → BoxAt H' b n → But b H H' → Q (.ref t) H'
theorem ok_law_question (T : TK K mg) : FnOk P w K mg base CX0 5 T.law_question.a T.law_question.fd ["box", "kind", "bits"] (spLQuestion K) := by
  refine T.law_question.F.ok sc_law_question (fun vs H Q E h => ?_) (fun cdv A outer s H vs Q E hr h => ?_)
  · obtain ⟨b, n, kind, bits, rfl, _⟩ := h; rfl
  obtain ⟨b, n, kind, bits, rfl, hB, q0, q6, q⟩ := h
  refine ⟨_, (pss_cons (ps_par (i := 3) (j := 4) (by rfl) sc_law_question.nd rfl rfl (by decide) rfl rfl (pa_cons (pe_callTy call_int1 (by rfl) T.z_int (by decide +kernel) (pa_cons (pe_cmpR op_gt (pv 1) pe_int (nomark _)) pa_nil)) (pa_cons (pe_ix (kixl K) (pe_lst (pa_cons pe_int (pa_cons pe_int (pa_cons pe_int (pa_cons pe_int (pa_cons pe_int (pa_cons pe_int (pa_cons pe_int (pa_cons pe_int pa_nil))))))))) (pe_call (ok_law_take T.toTA1) (hr.mono (by decide)) rfl T.law_take.m T.law_take.F.kp T.law_take.b .nil pass0 (pa_cons (pv 0) (pa_cons pe_int pa_nil))) (fun _ _ => rfl)) pa_nil)) (by rfl))
    (pss_cons (ps_set (i := 5) sc_law_question.nd rfl (Or.inl rfl) (pe_call (ok_law_kinds T) (hr.mono (by decide)) rfl T.law_kinds.m T.law_kinds.F.kp T.law_kinds.b .nil pass0 (pa_cons (pv 0) (pa_cons (pv 4) pa_nil))))
    (pss_cons (ps_set (i := 6) sc_law_question.nd rfl (Or.inl rfl) (pe_call (ok_law_sizes T) (hr.mono (by decide)) rfl T.law_sizes.m T.law_sizes.F.kp T.law_sizes.b .nil pass0 (pa_cons (pv 0) (pa_cons (pv 4) (pa_cons (pv 3) pa_nil)))))
    (pss_cons (ps_par (i := 7) (j := 8) (by rfl) sc_law_question.nd rfl rfl (by decide) rfl rfl (pa_cons (pe_call (ok_law_many T) (hr.mono (by decide)) rfl T.law_many.m T.law_many.F.kp T.law_many.b .nil pass0 (pa_cons (pv 4) (pa_cons (pv 6) (pa_cons (pv 3) pa_nil)))) (pa_cons (pe_call (ok_law_drawn T) (hr.mono (by decide)) rfl T.law_drawn.m T.law_drawn.F.kp T.law_drawn.b .nil pass0 (pa_cons (pv 0) (pa_cons (pv 5) (pa_cons (pv 6) (pa_cons (pv 3) pa_nil))))) pa_nil)) (by rfl))
    (pss_cons (ps_par (i := 9) (j := 10) (by rfl) sc_law_question.nd rfl rfl (by decide) rfl rfl (pa_cons (pe_cmpR op_eq (pe_op op_mod (pe_callTy call_int1 (by rfl) T.z_int (by decide +kernel) (pa_cons (pv 2) pa_nil)) pe_int) pe_int (nomark _)) (pa_cons (pe_cmpR op_gt (pv 2) pe_int (nomark _)) pa_nil)) (by rfl))
    (pss_cons (ps_if (pt_cmpR (kin K) (pv 1) (pe_lst (pa_cons pe_int (pa_cons pe_int pa_nil))) (by rfl)) (pss_one (ps_ret (pe_tup (pa_cons (pv 1) (pa_cons (pe_tup (pa_cons (pe_ifExp (pt_val (pv 9)) (pe_call (ok_law_odd T) (hr.mono (by decide)) rfl T.law_odd.m T.law_odd.F.kp T.law_odd.b .nil pass0 (pa_cons (pv 0) pa_nil)) (pv 4)) (pa_cons (pe_ifExp (pt_val (pv 10)) (pe_call (ok_law_spoilt_sizes T) (hr.mono (by decide)) rfl T.law_spoilt_sizes.m T.law_spoilt_sizes.F.kp T.law_spoilt_sizes.b .nil pass0 (pa_cons (pv 0) (pa_cons (pv 6) pa_nil))) (pv 6)) pa_nil))) pa_nil))))) pss_nil)
    (pss_cut (ps_set (i := 11) sc_law_question.nd rfl (Or.inl rfl) (pe_ifExp (pt_cmpR op_eq (pe_op op_mod (pe_callTy call_int1 (by rfl) T.z_int (by decide +kernel) (pa_cons (pe_op op_fdiv (pv 2) pe_int) pa_nil)) pe_int) pe_int (nomark _)) (pe_call (ok_law_spoilt_kinds T) (hr.mono (by decide)) rfl T.law_spoilt_kinds.m T.law_spoilt_kinds.F.kp T.law_spoilt_kinds.b .nil pass0 (pa_cons (pv 0) (pa_cons (pv 5) pa_nil))) (pv 5)))
    (pss_cons (ps_if (pt_cmpR (kin K) (pv 1) (pe_lst (pa_cons pe_int (pa_cons pe_int pa_nil))) (by rfl)) (pss_cut (ps_set (i := 12) sc_law_question.nd rfl (Or.inl rfl) (pe_ifExp (pt_val (pv 9)) (pe_ix (kixl K) (pe_lst (pa_cons (pv 7) (pa_cons (pe_un un_neg pe_int) (pa_cons (pe_op op_add (pv 7) (pe_call (ok_law_take T.toTA1) (hr.mono (by decide)) rfl T.law_take.m T.law_take.F.kp T.law_take.b .nil pass0 (pa_cons (pv 0) (pa_cons pe_int pa_nil)))) (pa_cons (pe_call (ok_law_odd T) (hr.mono (by decide)) rfl T.law_odd.m T.law_odd.F.kp T.law_odd.b .nil pass0 (pa_cons (pv 0) pa_nil)) pa_nil))))) (pe_call (ok_law_take T.toTA1) (hr.mono (by decide)) rfl T.law_take.m T.law_take.F.kp T.law_take.b .nil pass0 (pa_cons (pv 0) (pa_cons pe_int pa_nil))) (fun _ _ => rfl)) (pe_op op_fdiv (pe_op op_mul (pe_call (ok_law_take T.toTA1) (hr.mono (by decide)) rfl T.law_take.m T.law_take.F.kp T.law_take.b .nil pass0 (pa_cons (pv 0) (pa_cons pe_int pa_nil))) (pe_op op_sub (pv 7) pe_int)) pe_int)))
    (pss_one (ps_ret (pe_tup (pa_cons (pv 1) (pa_cons (pe_tup (pa_cons (pe_ifExp (pt_not (pt_val (pv 9))) (pe_callB (call_max2 rfl) (by rfl) T.z_max (by decide +kernel) (pa_cons pe_int (pa_cons (pv 12) pa_nil))) (pv 12)) (pa_cons (pv 11) (pa_cons (pe_ifExp (pt_val (pv 10)) (pe_call (ok_law_spoilt_sizes T) (hr.mono (by decide)) rfl T.law_spoilt_sizes.m T.law_spoilt_sizes.F.kp T.law_spoilt_sizes.b .nil pass0 (pa_cons (pv 0) (pa_cons (pv 6) pa_nil))) (pv 6)) pa_nil)))) pa_nil)))))) pss_nil)
    (pss_one (ps_ret (pe_tup (pa_cons (pv 1) (pa_cons (pe_tup (pa_cons (pe_ifExp (pt_val (pv 9)) (pe_call (ok_law_spoilt_rounds T) (hr.mono (by decide)) rfl T.law_spoilt_rounds.m T.law_spoilt_rounds.F.kp T.law_spoilt_rounds.b .nil pass0 (pa_cons (pv 0) (pa_cons (pv 8) (pa_cons (pv 5) pa_nil)))) (pe_callTy (ktuple K) (by rfl) T.z_tuple (by decide +kernel) (pa_cons (pv 8) pa_nil))) (pa_cons (pv 11) pa_nil))) pa_nil))))))))))))), ?_⟩
  refine ⟨_, rfl, _, _, rfl, rfl, .inr ⟨_, rfl, (by show 8 ≤ sizeLine; decide), fun L hL => ?_⟩⟩
  have x1 := Ex.new (o := .lst [.int 0, .int 1, .int 3, .int 5, .int 8, .int 16, .int 4, .int 6]) hL
  have Lb : L ≠ b := hB.ne hL
  refine ⟨_, rfl, b, 8, n + 79, rfl, by decide, by decide, hB.ex x1, fun r H1 r0 r1 B1 k1' => ?_⟩
  have k1 : But b H H1 := But.pre x1 k1'
  obtain ⟨c, hc, hat⟩ : ∃ c : Nat, c ≤ 16 ∧ atI [V.int 0, .int 1, .int 3, .int 5, .int 8, .int 16, .int 4, .int 6] r = some (.int (c : Int)) := by
    rcases (by omega : r = 0 ∨ r = 1 ∨ r = 2 ∨ r = 3 ∨ r = 4 ∨ r = 5 ∨ r = 6 ∨ r = 7) with rfl | rfl | rfl | rfl | rfl | rfl | rfl | rfl
    · exact ⟨0, by decide, rfl⟩
    · exact ⟨1, by decide, rfl⟩
    · exact ⟨3, by decide, rfl⟩
    · exact ⟨5, by decide, rfl⟩
    · exact ⟨8, by decide, rfl⟩
    · exact ⟨16, by decide, rfl⟩
    · exact ⟨4, by decide, rfl⟩
    · exact ⟨6, by decide, rfl⟩
  refine ⟨_, _, _, _, rfl, rfl, SqL.of (k1' _ _ Lb upd_same), hat, _, _, rfl, ?_⟩
  have gi : gOf kind = 0 ∨ gOf kind = 1 := gOf_is kind
  refine ⟨_, rfl, _, rfl, b, n + 62, c, rfl, hc, B1.le (by omega), fun pk ks H2 pk0 hk2 lk B2 k2' => ?_⟩
  have k2 := k1.trans k2'
  have pk00 : H pk = none := but_fresh k1 hB B1 pk0
  have pkb := hB.ne pk00
  refine ⟨_, rfl, _, rfl, _, rfl, b, n + 57, c, gOf kind, rfl, hc, by omega, B2, fun ps ss H3 ps0 hs3 ls sz B3 k3' => ?_⟩
  have k3 := k2.trans k3'
  have ps00 : H ps = none := but_fresh k2 hB B2 ps0
  have psb := hB.ne ps00
  have hk3 := k3' _ _ pkb hk2
  refine ⟨_, rfl, _, rfl, _, rfl, (c : Int), gOf kind, ps, ss, rfl, .inl (SqL.of hs3), by omega, by omega, fun z hz => (sz z hz).1, ?_⟩
  refine ⟨_, rfl, _, rfl, _, rfl, _, rfl, b, pk, ps, n + 45, gOf kind, ks, ss, rfl, B3, hk3, hs3, pkb, psb, gi, by omega, ls, sz, fun pr ts H4 pr0 hr4 lt all4 hne B4 k4' => ⟨_, _, rfl, ?_⟩⟩
  have k4 := k3.trans k4'
  have pr00 : H pr = none := but_fresh k3 hB B3 pr0
  have prb := hB.ne pr00
  have hk4 := k4' _ _ pkb hk3
  have hs4 := k4' _ _ psb hs3
  have all : ∀ t ∈ ts, H t = none ∧ Tup3 H4 t := fun t ht => ⟨but_fresh k3 hB B3 (all4 t ht).1, (all4 t ht).2⟩
  clear all4 hs3 hk3 hk2 k4' k3' k2' k1' B1 B2 B3
  refine ⟨_, rfl, .inl ⟨_, rfl, _, _, rfl, rfl, (by show (0 : Int) < 2; decide), rfl, _, rfl, _, _, rfl, rfl, _, _, rfl, ?_⟩⟩
  generalize decide (V.int (bits % 2) = V.int 1) = first
  generalize manyI (c : Int) ss (gOf kind) = many
  refine ⟨_, rfl, two_le, fun l1 hl1 => ?_⟩
  have x5 := Ex.new (o := .lst [.int 0, .int 3]) hl1
  have B5 := B4.ex x5
  have k5 := k4.ex x5
  have hk5 := x5 _ _ hk4
  have hs5 := x5 _ _ hs4
  have hr5 := x5 _ _ hr4
  have all5 : ∀ t ∈ ts, H t = none ∧ Tup3 (upd H4 l1 (.lst [.int 0, .int 3])) t := fun t ht => by
    obtain ⟨h1, ns, h2, h3⟩ := all t ht
    exact ⟨h1, ns, x5 _ _ h2, h3⟩
  -- how it ends
  have done : ∀ {G : Hp} {xs : List V} {ds : List PyData} {m : Nat}, RdLA K (Fr H) G 2 xs ds → Arity kind ds.length → BoxAt G b (n + m) → But b H G → xs.length ≤ 3 → xs.length ≤ sizeLine ∧ ∀ vt, G vt = none → 2 ≤ sizeLine ∧ ∀ t, (upd G vt (.tup xs)) t = none → Q (.ref t) (upd (upd G vt (.tup xs)) t (.tup [.int kind, .ref vt])) := by
    intro G xs ds m rd ar B k l3
    refine ⟨sz_of (by omega), fun vt hv => ⟨two_le, fun t ht => ?_⟩⟩
    have e2 := (Ex.new (o := .tup xs) hv).trans (Ex.new (o := .tup [.int kind, .ref vt]) ht)
    refine q t _ ⟨kind, vt, xs, ds, upd_same, (Ex.new ht) _ _ upd_same, ⟨rd.1, fun i x d hx hd => ((rd.2 i x d hx hd).ex e2).le (by decide)⟩, ar⟩ ((B.ex e2).le (by omega)) (k.ex e2)
  by_cases hk03 : kind = 0 ∨ kind = 3
  · refine in_two (v := true) upd_same (by rw [decide_eq_true hk03]) ⟨_, rfl, iteT ?_⟩
    generalize upd H4 l1 (.lst [.int 0, .int 3]) = H5 at *
    refine ⟨_, rfl, ?_⟩
    have tail : ∀ (G : Hp) (x : V) (d : PyData), RdA K (Fr H) G 2 x d → BoxAt G b (n + 40) → But b H5 G → tIf (tB (tVar 10)) (tCall (spSpSizes K) [] E0 (tCons (tVar 0) (tCons (tVar 6) tNil))) (tVar 6)
        [some (.ref b), some (.int kind), some (.int bits), some (.int (gOf kind)), some (.int (c : Int)), some (.ref pk), some (.ref ps), some (.int many), some (.ref pr), some (.bl first), some (.bl (decide ((3 : Int) < bits))), none, none] G
        (fun y G' => 2 ≤ sizeLine ∧ ∀ vt, G' vt = none → 2 ≤ sizeLine ∧ ∀ t, (upd G' vt (.tup [x, y])) t = none → Q (.ref t) (upd (upd G' vt (.tup [x, y])) t (.tup [.int kind, .ref vt]))) := by
      intro G x d rx B k
      refine run_sizes (n := n + 32) rfl rfl rfl hB B (k5.trans k) (k _ _ psb hs5) ps00 (by omega) fun y e G' ry B' k' => ?_
      exact done (m := 32) (.cons (rx.but k' (fun a h => box_ne hB h)) (.cons ry .nil)) (.inl ⟨hk03, rfl⟩) B' ((k5.trans k).trans k') (by show 2 ≤ 3; decide)
    refine ⟨_, rfl, _, rfl, ?_⟩
    cases first with
    | true => exact iteT ⟨_, rfl, b, n + 44, rfl, B5, fun x d G rx B k => tail G x d (rx.of fun a ha => but_fresh k5 hB B5 ha) (B.le (by omega)) k⟩
    | false => exact iteF ⟨_, rfl, tail H5 _ _ (.inl (.int _)) (B5.le (by omega)) (But.of (Ex.refl _))⟩
  refine in_two (v := false) upd_same (by rw [decide_eq_false hk03]) ⟨_, rfl, iteF ?_⟩
  generalize upd H4 l1 (.lst [.int 0, .int 3]) = H5 at *
  refine ⟨fun σ' H' => ∃ y e, σ' = [some (.ref b), some (.int kind), some (.int bits), some (.int (gOf kind)), some (.int (c : Int)), some (.ref pk), some (.ref ps), some (.int many), some (.ref pr), some (.bl first), some (.bl (decide ((3 : Int) < bits))), some y, none] ∧ RdA K (Fr H) H' 2 y e ∧ BoxAt H' b (n + 33) ∧ But b H5 H', ?_, ?_⟩
  · refine ⟨_, rfl, _, _, rfl, rfl, ⟨by decide, by decide⟩, .inl ⟨_, rfl, _, _, rfl, rfl, (by show (0 : Int) < 2; decide), rfl, _, rfl, ite2 (fun _ => ?_) (fun _ => ?_)⟩⟩
    · exact ⟨_, rfl, _, rfl, b, pk, n + 33, Fr H, ks, rfl, B5, fun a h => box_ne hB h, hk5, pk00, by omega, fun y e H' ry B k => ⟨y, e, rfl, ry.of fun c hc => hc.elim id (fun h => but_fresh k5 hB B5 h), B, k⟩⟩
    · obtain ⟨d, rd⟩ := (Ds.ints (K := K) (ok := Fr H) (H := H5) (n := 1) ks).lst hk5 pk00 (by rw [List.length_map]; omega)
      exact ⟨_, rfl, _, d, rfl, .inl rd, B5.le (by omega), But.of (Ex.refl _)⟩
  rintro σ' H6 ⟨y, e, rfl, ry, B6, k6'⟩
  have k6 := k5.trans k6'
  refine ⟨_, rfl, two_le, fun l2 hl2 => ?_⟩
  have x7 := Ex.new (o := .lst [.int 1, .int 4]) hl2
  have B7 := B6.ex x7
  have k7 := k6.ex x7
  have k57 := k6'.ex x7
  have ry7 := ry.ex x7
  have hs7 := k57 _ _ psb hs5
  have hr7 := k57 _ _ prb hr5
  have hk7 := k57 _ _ pkb hk5
  by_cases hk14 : kind = 1 ∨ kind = 4
  · refine in_two (v := true) upd_same (by rw [decide_eq_true hk14]) ⟨_, rfl, iteT ?_⟩
    generalize upd H6 l2 (.lst [.int 1, .int 4]) = H7 at *
    refine ⟨fun σ' H' => ∃ x d, σ' = [some (.ref b), some (.int kind), some (.int bits), some (.int (gOf kind)), some (.int (c : Int)), some (.ref pk), some (.ref ps), some (.int many), some (.ref pr), some (.bl first), some (.bl (decide ((3 : Int) < bits))), some y, some x] ∧ RdA K (Fr H) H' 2 x d ∧ (first = false → ∃ i, x = .int i) ∧ BoxAt H' b (n + 28) ∧ But b H7 H', ?_, ?_⟩
    · refine ⟨_, rfl, _, rfl, ?_⟩
      cases first with
      | true =>
        refine iteT ⟨_, rfl, 1, rfl, _, rfl, _, rfl, b, 99, n + 32, rfl, by decide, by decide, B7, fun r1 G1 _ _ C1 l1 => ⟨_, _, rfl, rfl, _, rfl, b, n + 31, rfl, C1, fun x d G2 rx C2 l2 => ⟨(by show 4 ≤ sizeLine; decide), fun L hL => ?_⟩⟩⟩
        have xL := Ex.new (o := .lst [.int many, .int (-1), .int (many + r1), x]) hL
        have LB : L ≠ b := C2.ne hL
        refine ⟨_, rfl, b, 4, n + 30, rfl, by decide, by decide, C2.ex xL, fun r2 G3 i0 i1 C3 l3 => ?_⟩
        have rx3 : RdA K (Fr H) G3 2 x d := ((rx.of fun a ha => but_fresh (k7.trans l1) hB C1 ha).ex xL).but l3 (fun a h => box_ne hB h)
        have lst : RdLA K (Fr H) G3 2 [.int many, .int (-1), .int (many + r1), x] [.int many, .int (-1), .int (many + r1), d] := .cons (.inl (.int _)) (.cons (.inl (.int _)) (.cons (.inl (.int _)) (.cons rx3 .nil)))
        obtain ⟨z, dz, hz, rz⟩ := lst.get i0 (show r2 < 4 from i1)
        exact ⟨_, _, _, _, rfl, rfl, SqL.of (l3 _ _ LB upd_same), hz, z, dz, rfl, rz, (fun h => nomatch h), C3.le (by omega), ((l1.trans l2).ex xL).trans l3⟩
      | false =>
        exact iteF ⟨_, rfl, b, 99, n + 32, rfl, by decide, by decide, B7, fun r1 G1 i0 i1 C1 l1 => ⟨_, rfl, _, _, rfl, rfl, _, _, rfl, rfl, .inl ⟨by omega, by omega⟩, _, _, rfl, rfl, ⟨by decide, by decide⟩, _, _, rfl, .inl (.int _), fun _ => ⟨_, rfl⟩, C1.le (by omega), l1⟩⟩
    rintro σ' H8 ⟨x, d, rfl, rx, fx, B8, k8'⟩
    have k8 := k7.trans k8'
    have ry8 := ry7.but k8' (fun a h => box_ne hB h)
    refine ⟨_, rfl, ?_⟩
    have tail : ∀ (x0 x : V) (d : PyData), RdA K (Fr H) H8 2 x d → tIf (tB (tVar 10)) (tCall (spSpSizes K) [] E0 (tCons (tVar 0) (tCons (tVar 6) tNil))) (tVar 6)
        [some (.ref b), some (.int kind), some (.int bits), some (.int (gOf kind)), some (.int (c : Int)), some (.ref pk), some (.ref ps), some (.int many), some (.ref pr), some (.bl first), some (.bl (decide ((3 : Int) < bits))), some y, some x0] H8
        (fun z G' => 3 ≤ sizeLine ∧ ∀ vt, G' vt = none → 2 ≤ sizeLine ∧ ∀ t, (upd G' vt (.tup [x, y, z])) t = none → Q (.ref t) (upd (upd G' vt (.tup [x, y, z])) t (.tup [.int kind, .ref vt]))) := by
      intro x0 x d rx
      refine run_sizes (n := n + 20) rfl rfl rfl hB B8 k8 (k8' _ _ psb hs7) ps00 (by omega) fun z e' G' rz B' k' => ?_
      exact done (m := 20) (.cons (rx.but k' (fun a h => box_ne hB h)) (.cons (ry8.but k' (fun a h => box_ne hB h)) (.cons rz .nil))) (.inr (.inl ⟨hk14, rfl⟩)) B' (k8.trans k') (by show 3 ≤ 3; decide)
    refine ⟨_, rfl, _, rfl, ?_⟩
    cases first with
    | true => exact iteF ⟨_, rfl, _, rfl, tail _ x d rx⟩
    | false =>
      obtain ⟨i, rfl⟩ := fx rfl
      exact iteT ⟨_, rfl, _, _, rfl, _, rfl, tail _ _ _ (.inl (.int _))⟩
  · refine in_two (v := false) upd_same (by rw [decide_eq_false hk14]) ⟨_, rfl, iteF ?_⟩
    generalize upd H6 l2 (.lst [.int 1, .int 4]) = H7 at *
    have ar : Arity kind 2 := .inr (.inr ⟨by omega, rfl⟩)
    refine ⟨_, rfl, ?_⟩
    refine ⟨_, rfl, _, rfl, ?_⟩
    have all7 : ∀ t ∈ ts, H t = none ∧ Tup3 H7 t := fun t ht => by
      obtain ⟨h1, ns, h2, h3⟩ := all5 t ht
      exact ⟨h1, ns, k57 _ _ (hB.ne h1) h2, h3⟩
    cases first with
    | true =>
      refine iteT ⟨_, rfl, _, rfl, _, rfl, b, pr, pk, n + 20, Fr H, ts, ks, rfl, B7.le (by omega), fun a h => box_ne hB h, hr7, pr00, lt, all7, hk7, pk00, by omega, hne, fun x d G rx B k => ?_⟩
      exact ⟨_, rfl, done (m := 20) (.cons (rx.of fun c hc => hc.elim id (fun h => but_fresh k7 hB B7 h)) (.cons (ry7.but k (fun a h => box_ne hB h)) .nil)) ar B (k7.trans k) (by show 2 ≤ 3; decide)⟩
    | false =>
      refine iteF ⟨_, rfl, pr, _, rfl, .inl ⟨SqL.of hr7, fun t ht => ?_⟩⟩
      have e8 := Ex.new (o := .tup (ts.map V.ref)) ht
      obtain ⟨d, rd⟩ := ((tup3_ds (K := K) (ok := Fr H) (H := H7) all7).ex e8).tup (SqT.of upd_same) (but_fresh k7 hB B7 ht) (by rw [List.length_map]; omega)
      exact ⟨_, rfl, done (m := 33) (.cons (.inl rd) (.cons (ry7.ex e8) .nil)) ar (B7.ex e8) (k7.ex e8) (by show 2 ≤ 3; decide)⟩
end
end L2.U


set_option Elab.async false
set_option linter.all false
set_option maxRecDepth 100000
set_option maxHeartbeats 4000000
namespace L2.U
open PySem PySem.Spec PyProof.Rows Evl


section
variable {P : Program} {w : World} {K : PySem.W.Frag} {mg : Str → Option Value} {base : Heap}
structure Aj (K : PySem.W.Frag) (H1 : Hp) (b A : Addr) (n : Nat) (ts : List Addr) (H : Hp) : Prop where
  box : BoxAt H b n
  b0 : H1 b = none
  A0 : H1 A = none
  ex : Ex H1 H
  dir : H A = some (.lst (ts.map V.ref))
  ne : A ≠ b
  all : ∀ t ∈ ts, AskAt K (fun a => a ≠ b ∧ a ≠ A) H t
section
variable {H1 H H' : Hp} {b A : Addr} {n m : Nat} {ts us : List Addr}
theorem Aj.exx (j : Aj K H1 b A n ts H) (e : Ex H H') : Aj K H1 b A n ts H' := ⟨j.box.ex e, j.b0, j.A0, j.ex.trans e, e _ _ j.dir, j.ne, fun t ht => (j.all t ht).ex e⟩
theorem Aj.le (j : Aj K H1 b A n ts H) (h : m ≤ n) : Aj K H1 b A m ts H := ⟨j.box.le h, j.b0, j.A0, j.ex, j.dir, j.ne, j.all⟩
theorem Aj.but (j : Aj K H1 b A n ts H) (B : BoxAt H' b m) (k : But b H H') : Aj K H1 b A m ts H' := by
  obtain ⟨ys, hb⟩ := box_list j.box
  exact ⟨B, j.b0, j.A0, fun a o h => k a o (ne_of_none h j.b0) (j.ex a o h), k _ _ j.ne j.dir, j.ne, fun t ht => (j.all t ht).but hb k fun a ha => ha.1⟩
theorem Aj.add (j : Aj K H1 b A n ts H) (h : ∀ t ∈ us, AskAt K (fun a => a ≠ b ∧ a ≠ A) H t) {xs : List V} (hx : xs = (ts ++ us).map V.ref) : Aj K H1 b A n (ts ++ us) (upd H A (.lst xs)) := by
  have kA : But A H (upd H A (.lst xs)) := But.upd
  refine ⟨box_upd j.box j.ne, j.b0, j.A0, j.ex.mut j.A0, by rw [upd_same, hx], j.ne, fun t ht => ?_⟩
  rcases List.mem_append.mp ht with h' | h'
  · exact (j.all t h').but j.dir kA fun a ha => ha.2
  · exact (h t h').but j.dir kA fun a ha => ha.2
theorem Aj.fr (j : Aj K H1 b A n ts H) {a : Addr} (h : H a = none) : a ≠ b ∧ a ≠ A := ⟨j.box.ne h, ne_of_none' j.dir h⟩
end
theorem mm (L : Int) : 1 ≤ (if (if L < 2 then L else 2) > 1 then (if L < 2 then L else 2) else 1) ∧ (if (if L < 2 then L else 2) > 1 then (if L < 2 then L else 2) else 1) ≤ 2 := by
  by_cases c : L < 2
  · rw [if_pos c]; split <;> omega
  · rw [if_neg c]; split <;> omega
/-! ### literals that hold data -/
def RunD (K : PySem.W.Frag) (te : TE) (σ : L2.St) (H : Hp) (n : Nat) : Prop := ∀ G, Ex H G → ∀ Q : VK, (∀ x d G', Ex G G' → Rd K (Fr G) G' n x d → Q x G') → te σ G Q
def RunA (K : PySem.W.Frag) (ta : TA) (σ : L2.St) (H : Hp) (n m : Nat) : Prop := ∀ G, Ex H G → ∀ Q : List V → Hp → Prop, (∀ xs ds G', Ex G G' → RdL K (Fr G) G' n xs ds → xs.length = m → Q xs G') → ta σ G Q
def RunQ (K : PySem.W.Frag) (te : TE) (σ : L2.St) (H : Hp) : Prop := ∀ G, Ex H G → ∀ Q : VK, (∀ t G', Ex G G' → AskAt K (Fr G) G' t → Q (.ref t) G') → te σ G Q
def RunQA (K : PySem.W.Frag) (ta : TA) (σ : L2.St) (H : Hp) (m : Nat) : Prop := ∀ G, Ex H G → ∀ Q : List V → Hp → Prop, (∀ (ts : List Addr) G', Ex G G' → (∀ t ∈ ts, AskAt K (Fr G) G' t) → ts.length = m → Q (ts.map V.ref) G') → ta σ G Q
section
variable {σ : L2.St} {H : Hp} {te : TE} {ta : TA} {n m : Nat}
theorem rn_int {i : Int} : RunD K (tC (.int i)) σ H n := fun G _ Q k => k _ _ G (Ex.refl _) (.int i)
theorem rn_neg {i : Int} : RunD K (tUn (rU fun i => .int (-i)) (tC (.int i))) σ H n := fun G _ Q k => ⟨i, rfl, k _ _ G (Ex.refl _) (.int _)⟩
theorem ra_nil : RunA K tNil σ H n 0 := fun G _ Q k => k [] [] G (Ex.refl _) RdL.nil rfl
theorem ra_cons (h : RunD K te σ H n) (r : RunA K ta σ H n m) : RunA K (tCons te ta) σ H n (m + 1) := fun G e Q k =>
  h G e _ fun x d G1 e1 rx => r G1 (e.trans e1) _ fun xs ds G2 e2 rs hl => k (x :: xs) (d :: ds) G2 (e1.trans e2) (RdL.cons (rx.ex e2) ⟨rs.1, fun i y f hy hf => (rs.2 i y f hy hf).of fun a ha => fresh_back e1 ha⟩) (by rw [List.length_cons, hl])
theorem rn_tup (h : RunA K ta σ H n m) (hm : m ≤ 900) : RunD K (tTup ta) σ H (n + 1) := fun G e Q k =>
  h G e _ fun xs ds G1 e1 rs hl => ⟨sz_of (by omega), fun p hp => by
    have e2 := Ex.new (o := .tup xs) hp
    exact k _ (.tuple ds) _ (e1.trans e2) (.tup (SqT.of upd_same) (fresh_back e1 hp) rs.1 (by omega) fun i x d hx hd => (rs.2 i x d hx hd).ex e2)⟩
theorem rn_lst (h : RunA K ta σ H n m) (hm : m ≤ 900) : RunD K (tLst ta) σ H (n + 1) := fun G e Q k =>
  h G e _ fun xs ds G1 e1 rs hl => ⟨sz_of (by omega), fun p hp => by
    have e2 := Ex.new (o := .lst xs) hp
    exact k _ (.list ds) _ (e1.trans e2) (.lst upd_same (fresh_back e1 hp) rs.1 (by omega) fun i x d hx hd => (rs.2 i x d hx hd).ex e2)⟩
theorem rn_rep {k : Int} (h0 : 0 ≤ k) (h1 : k ≤ 100) : RunD K (tOp rRep (tLst (tCons (tC (.int 1)) tNil)) (tC (.int k))) σ H (n + 1) := fun G e Q q => by
  refine (el_repL (σ := σ) (H := G) (ta := tLst (tCons (tC (.int 1)) tNil)) (tb := tC (.int k)) (xs := [.int 1]) (n := k) (el_lst (ea_cons ev_c ea_nil) (by decide)) (fun _ _ => ev_c) (by omega) (by omega) (by show 1 * k.toNat ≤ 100000; omega)) G (Ex.refl _) _ fun l G1 hl e1 hx => ?_
  have en : (List.replicate k.toNat [V.int 1]).flatten = (List.replicate k.toNat (1 : Int)).map V.int := by
    generalize k.toNat = j
    induction j with
    | zero => rfl
    | succ j ih => rw [List.replicate_succ, List.replicate_succ, List.flatten_cons, ih]; rfl
  rw [en] at hx
  have dd : Ds K (Fr G) G1 n ((List.replicate k.toNat (1 : Int)).map V.int) := Ds.ints _
  obtain ⟨d, rd⟩ := dd.lst hx hl (by rw [List.length_map, List.length_replicate]; omega)
  exact q _ d G1 e1 rd
theorem rn_le {k : Nat} (h : RunD K te σ H n) (l : n ≤ k) : RunD K te σ H k := fun G e Q q => h G e Q fun x d G1 e1 rx => q x d G1 e1 (rx.le l)
theorem rq {kind : Int} (h : RunA K ta σ H 3 m) (ar : Arity kind m) : RunQ K (tTup (tCons (tC (.int kind)) (tCons (tTup ta) tNil))) σ H := fun G e Q k =>
  h G e _ fun xs ds G1 e1 rs hl => by
    have l3 := ar.len
    refine ⟨sz_of (by omega), fun vt hv => ⟨two_le, fun t ht => ?_⟩⟩
    have e2 := (Ex.new (o := .tup xs) hv).trans (Ex.new (o := .tup [.int kind, .ref vt]) ht)
    exact k t _ (e1.trans e2) ⟨kind, vt, xs, ds, upd_same, (Ex.new ht) _ _ upd_same, ⟨rs.1, fun i x d hx hd => .inl ((rs.2 i x d hx hd).ex e2)⟩, by rw [← rs.1, hl]; exact ar⟩
theorem rqa_nil : RunQA K tNil σ H 0 := fun G _ Q k => k [] G (Ex.refl _) (fun t ht => by cases ht) rfl
theorem rqa_cons (h : RunQ K te σ H) (r : RunQA K ta σ H m) : RunQA K (tCons te ta) σ H (m + 1) := fun G e Q k =>
  h G e _ fun t G1 e1 at_ => r G1 (e.trans e1) _ fun ts G2 e2 all hl => k (t :: ts) G2 (e1.trans e2) (fun u hu => by
    rcases List.mem_cons.mp hu with rfl | hu
    · exact at_.ex e2
    · exact (all u hu).of fun a ha => fresh_back e1 ha) (by rw [List.length_cons, hl])
end
theorem q_ext {σ : L2.St} {H H1 : Hp} {b A : Addr} {n m : Nat} {ts : List Addr} {ta : TA} {tz : TS} {D : Ends} (J : Aj K H1 b A n ts H) (h4 : σ[4]? = some (some (.ref A))) (r : RunQA K ta σ H m) (hm : ts.length + m ≤ 400)
    (k : ∀ us G, Aj K H1 b A n us G → us.length = ts.length + m → tz D σ G) : tSeq (tDrop (tBM K "list" rExtend (tVar 4) (tCons (tLst ta) tNil))) tz D σ H := by
  refine ⟨_, h4, .inl ⟨rfl, _, SqL.of J.dir⟩, ?_⟩
  refine r H (Ex.refl _) _ fun us G e all hl => ⟨sz_of (by rw [List.length_map]; omega), fun L hL => ?_⟩
  have e2 := Ex.new (o := .lst (us.map V.ref)) hL
  have J2 := (J.exx e).exx e2
  refine ⟨A, L, _, _, rfl, rfl, J2.dir, upd_same, Nat.le_of_lt (small1000 (by rw [List.length_map, List.length_map]; omega)), ?_⟩
  exact k (ts ++ us) _ (J2.add (fun t ht => ((all t ht).ex e2).of fun a ha => J.fr ha) (by rw [List.map_append])) (by rw [List.length_append, hl])
def spLaw (K : PySem.W.Frag) : Sp := fun vs H Q _ => ∃ (a : Addr) (ns : List Int), vs = [.ref a] ∧ SqL K H a (ns.map V.int) ∧ ns.length ≤ 63 ∧ ∀ H', Q (.bl true) H'
theorem ok_law (T : TK K mg) : FnOk P w K mg base CX0 11 T.law.a T.law.fd ["script"] (spLaw K) := by
  refine T.law.F.ok sc_law (fun vs H Q E h => ?_) (fun cdv A outer s H vs Q E hr h => ?_)
  · obtain ⟨a, ns, rfl, _⟩ := h; rfl
  obtain ⟨a, ns, rfl, hS, h63, q⟩ := h
  refine ⟨_, (pss_cons (ps_for PassesOwn.never rfl (pi_range1 rfl T.z_range (pa_cons (pe_callB (call_max2 rfl) (by rfl) T.z_max (by decide +kernel) (pa_cons pe_int (pa_cons (pe_callB (call_min2 rfl) (by rfl) T.z_min (by decide +kernel) (pa_cons pe_int (pa_cons (pe_callB (klen K) (by rfl) T.z_len (by decide +kernel) (pa_cons (pv 0) pa_nil)) pa_nil))) pa_nil))) pa_nil)) (pg_name (i := 1) sc_law.nd rfl (Or.inl rfl)) (pss_cons (ps_set (i := 2) sc_law.nd rfl (Or.inl rfl) (pe_call (ok_law_box T.toTA1) (hr.mono (by decide)) rfl T.law_box.m T.law_box.F.kp T.law_box.b .nil pass0 (pa_cons (pe_call (ok_law_cell T.toTA1) (hr.mono (by decide)) rfl T.law_cell.m T.law_cell.F.kp T.law_cell.b .nil pass0 (pa_cons (pv 0) (pa_cons (pv 1) pa_nil))) pa_nil)))
    (pss_cons (ps_par (i := 3) (j := 4) (by rfl) sc_law.nd rfl rfl (by decide) rfl rfl (pa_cons (pe_call (ok_law_take T.toTA1) (hr.mono (by decide)) rfl T.law_take.m T.law_take.F.kp T.law_take.b .nil pass0 (pa_cons (pv 2) (pa_cons pe_int pa_nil))) (pa_cons (pe_lst pa_nil) pa_nil)) (by rfl))
    (pss_cons (ps_for PassesOwn.never rfl (pi_range1 rfl T.z_range (pa_cons pe_int pa_nil)) (pg_name (i := 5) sc_law.nd rfl (Or.inl rfl)) (pss_cons (ps_set (i := 6) sc_law.nd rfl (Or.inl rfl) (pe_ix (kixl K) (pe_lst (pa_cons pe_int (pa_cons pe_int (pa_cons pe_int (pa_cons pe_int (pa_cons pe_int (pa_cons pe_int (pa_cons pe_int (pa_cons pe_int pa_nil))))))))) (pe_call (ok_law_take T.toTA1) (hr.mono (by decide)) rfl T.law_take.m T.law_take.F.kp T.law_take.b .nil pass0 (pa_cons (pv 2) (pa_cons pe_int pa_nil))) (fun _ _ => rfl)))
    (pss_one (ps_expr (pe_bm PySem.F.plainAttrs_list PySem.F.slot_list_append PySem.F.type_list_append mt_append (pv 4) (pa_cons (pe_call (ok_law_question T) (hr.mono (by decide)) rfl T.law_question.m T.law_question.F.kp T.law_question.b .nil pass0 (pa_cons (pv 2) (pa_cons (pe_op op_mod (pe_callTy call_int1 (by rfl) T.z_int (by decide +kernel) (pa_cons (pv 5) pa_nil)) pe_int) (pa_cons (pv 6) pa_nil)))) pa_nil))))))
    (pss_cons (ps_expr (pe_bm PySem.F.plainAttrs_list PySem.F.slot_list_extend PySem.F.type_list_extend mt_extend (pv 4) (pa_cons (pe_lst (pa_cons (pe_tup (pa_cons pe_int (pa_cons (pe_tup (pa_cons pe_int (pa_cons (pe_op op_rep (pe_lst (pa_cons pe_int pa_nil)) pe_int) pa_nil))) pa_nil))) (pa_cons (pe_tup (pa_cons pe_int (pa_cons (pe_tup (pa_cons pe_int (pa_cons (pe_op op_rep (pe_lst (pa_cons pe_int pa_nil)) pe_int) pa_nil))) pa_nil))) (pa_cons (pe_tup (pa_cons pe_int (pa_cons (pe_tup (pa_cons pe_int (pa_cons (pe_op op_rep (pe_lst (pa_cons pe_int pa_nil)) pe_int) pa_nil))) pa_nil))) (pa_cons (pe_tup (pa_cons pe_int (pa_cons (pe_tup (pa_cons pe_int (pa_cons (pe_lst (pa_cons pe_int pa_nil)) pa_nil))) pa_nil))) (pa_cons (pe_tup (pa_cons pe_int (pa_cons (pe_tup (pa_cons pe_int (pa_cons (pe_lst pa_nil) pa_nil))) pa_nil))) (pa_cons (pe_tup (pa_cons pe_int (pa_cons (pe_tup (pa_cons (pe_un un_neg pe_int) (pa_cons (pe_lst (pa_cons pe_int pa_nil)) pa_nil))) pa_nil))) pa_nil))))))) pa_nil)))
    (pss_cons (ps_expr (pe_bm PySem.F.plainAttrs_list PySem.F.slot_list_extend PySem.F.type_list_extend mt_extend (pv 4) (pa_cons (pe_lst (pa_cons (pe_tup (pa_cons pe_int (pa_cons (pe_tup (pa_cons (pe_tup (pa_cons (pe_tup (pa_cons pe_int pa_nil)) pa_nil)) (pa_cons (pe_lst (pa_cons pe_int pa_nil)) pa_nil))) pa_nil))) (pa_cons (pe_tup (pa_cons pe_int (pa_cons (pe_tup (pa_cons (pe_tup (pa_cons (pe_tup (pa_cons pe_int pa_nil)) pa_nil)) (pa_cons (pe_lst (pa_cons pe_int pa_nil)) pa_nil))) pa_nil))) (pa_cons (pe_tup (pa_cons pe_int (pa_cons (pe_tup (pa_cons (pe_tup (pa_cons (pe_tup (pa_cons pe_int pa_nil)) (pa_cons (pe_tup (pa_cons pe_int pa_nil)) pa_nil))) (pa_cons (pe_lst (pa_cons pe_int (pa_cons pe_int pa_nil))) pa_nil))) pa_nil))) (pa_cons (pe_tup (pa_cons pe_int (pa_cons (pe_tup (pa_cons (pe_tup (pa_cons (pe_tup (pa_cons pe_int pa_nil)) (pa_cons (pe_tup (pa_cons pe_int pa_nil)) pa_nil))) (pa_cons (pe_lst (pa_cons pe_int (pa_cons pe_int pa_nil))) pa_nil))) pa_nil))) (pa_cons (pe_tup (pa_cons pe_int (pa_cons (pe_tup (pa_cons (pe_tup (pa_cons (pe_tup (pa_cons pe_int pa_nil)) (pa_cons (pe_tup (pa_cons pe_int pa_nil)) pa_nil))) (pa_cons (pe_lst (pa_cons pe_int (pa_cons pe_int (pa_cons pe_int pa_nil)))) pa_nil))) pa_nil))) pa_nil)))))) pa_nil)))
    (pss_cons (ps_expr (pe_bm PySem.F.plainAttrs_list PySem.F.slot_list_extend PySem.F.type_list_extend mt_extend (pv 4) (pa_cons (pe_lst (pa_cons (pe_tup (pa_cons pe_int (pa_cons (pe_tup (pa_cons (pe_tup (pa_cons (pe_tup (pa_cons pe_int pa_nil)) (pa_cons (pe_tup (pa_cons pe_int pa_nil)) pa_nil))) (pa_cons (pe_lst (pa_cons pe_int (pa_cons pe_int (pa_cons pe_int pa_nil)))) pa_nil))) pa_nil))) (pa_cons (pe_tup (pa_cons pe_int (pa_cons (pe_tup (pa_cons (pe_tup (pa_cons (pe_tup (pa_cons pe_int pa_nil)) (pa_cons (pe_tup (pa_cons pe_int pa_nil)) pa_nil))) (pa_cons (pe_lst (pa_cons pe_int (pa_cons pe_int (pa_cons pe_int pa_nil)))) pa_nil))) pa_nil))) (pa_cons (pe_tup (pa_cons pe_int (pa_cons (pe_tup (pa_cons pe_int (pa_cons (pe_lst (pa_cons pe_int (pa_cons pe_int pa_nil))) (pa_cons (pe_lst (pa_cons pe_int (pa_cons pe_int pa_nil))) pa_nil)))) pa_nil))) (pa_cons (pe_tup (pa_cons pe_int (pa_cons (pe_tup (pa_cons pe_int (pa_cons (pe_lst (pa_cons pe_int (pa_cons pe_int pa_nil))) (pa_cons (pe_lst (pa_cons pe_int (pa_cons pe_int pa_nil))) pa_nil)))) pa_nil))) (pa_cons (pe_tup (pa_cons pe_int (pa_cons (pe_tup (pa_cons pe_int (pa_cons (pe_lst (pa_cons pe_int (pa_cons pe_int pa_nil))) (pa_cons (pe_lst (pa_cons pe_int (pa_cons pe_int pa_nil))) pa_nil)))) pa_nil))) pa_nil)))))) pa_nil)))
    (pss_one (ps_for PassesOwn.never rfl (pi_range1 rfl T.z_range (pa_cons pe_int pa_nil)) (pg_name (i := 5) sc_law.nd rfl (Or.inl rfl)) (pss_one (ps_for PassesOwn.never rfl (pi_range1 rfl T.z_range (pa_cons (pe_callB (klen K) (by rfl) T.z_len (by decide +kernel) (pa_cons (pv 4) pa_nil)) pa_nil)) (pg_name (i := 7) sc_law.nd rfl (Or.inl rfl)) (pss_one (ps_if (pt_not (pt_val (pe_call (ok_law_right T) (hr.mono (by decide)) rfl T.law_right.m T.law_right.F.kp T.law_right.b .nil pass0 (pa_cons (pe_ix (kixt K) (pe_ix (kixl K) (pv 4) (pv 7) (fun _ _ => rfl)) pe_int (fun _ _ => rfl)) (pa_cons (pe_op op_mod (pe_callTy call_int1 (by rfl) T.z_int (by decide +kernel) (pa_cons (pe_op op_add (pe_op op_add (pv 3) (pv 7)) (pv 5)) pa_nil)) pe_int) (pa_cons (pe_ix (kixt K) (pe_ix (kixl K) (pv 4) (pv 7) (fun _ _ => rfl)) pe_int (fun _ _ => rfl)) pa_nil)))))) (pss_one (ps_ret pe_bl)) pss_nil)))))))))))))
    (pss_one (ps_ret pe_bl))), ?_⟩
  refine ⟨_, rfl, _, _, rfl, .inl ⟨_, hS, rfl⟩, _, _, rfl, _, _, rfl, _, rfl, ?_, ?_, for_range (lo := 0) (n := _)
    (fun k σ H' => Ex H H' ∧ ∃ x1 x2 x3 x4 x5 x6 x7, σ = [some (.ref a), x1, x2, x3, x4, x5, x6, x7]) ⟨Ex.refl _, _, _, _, _, _, _, _, rfl⟩ ?_ ?_⟩
  · have := (mm ((ns.map V.int).length : Int)).1
    exact Int.le_trans (by decide) this
  · have := (mm ((ns.map V.int).length : Int)).2
    exact Int.lt_of_le_of_lt this (by decide)
  · rintro k σ H1 hk ⟨e1, x1, x2, x3, x4, x5, x6, x7, rfl⟩
    have hS1 := ex_l e1 hS
    have hk2 : k ≤ 2 := by
      have := (mm ((ns.map V.int).length : Int)).2
      omega
    refine ⟨_, rfl, _, rfl, a, ns, _, rfl, hS1, by omega, by omega, fun v H2 e2 => ?_⟩
    refine ⟨v, rfl, fun b H3 hb0 e3 B3 => ?_⟩
    have E13 := e2.trans e3
    have b0 : H1 b = none := fresh_back e2 hb0
    refine ⟨_, rfl, b, 2, 999999, rfl, by decide, by decide, B3, fun named H4 n0 n1 B4 k4 => ⟨Nat.zero_le _, fun A hA => ⟨_, _, rfl, ?_⟩⟩⟩
    have ex4 : Ex H1 H4 := fun c o h => k4 c o (ne_of_none h b0) (E13 _ _ h)
    have y5 := Ex.new (o := .lst []) hA
    have J5 : Aj K H1 b A 990000 [] (upd H4 A (.lst [])) := ⟨(B4.ex y5).le (by decide), b0, fresh_back ex4 hA, ex4.trans y5, upd_same, B4.ne hA, fun t ht => by cases ht⟩
    generalize upd H4 A (.lst []) = H5 at J5 ⊢
    refine ⟨28, rfl, by decide, by decide, for_range (lo := 0) (n := (28 : Int).toNat) (fun i σ H' => ∃ (ts : List Addr) (v5 v6 v7 : Option V), Aj K H1 b A (990000 - 81 * i) ts H' ∧ ts.length = i ∧ σ = [some (.ref a), some (.int (0 + (k : Int))), some (.ref b), some (.int named), some (.ref A), v5, v6, v7]) ⟨[], _, _, _, J5, rfl, rfl⟩ ?_ ?_⟩
    · rintro i σ H6 hi ⟨ts, v5, v6, v7, J, hl, rfl⟩
      have hi28 : i < 28 := hi
      obtain ⟨m, hm⟩ : ∃ m, 990000 - 81 * i = m + 81 := ⟨990000 - 81 * i - 81, by omega⟩
      have hm2 : 990000 - 81 * (i + 1) = m := by omega
      rw [hm] at J
      refine ⟨(by show 8 ≤ sizeLine; decide), fun L hL => ?_⟩
      have y6 := Ex.new (o := .lst [.int 0, .int 1, .int 2, .int 4, .int 1, .int 3, .int 5, .int 7]) hL
      have J6 := J.exx y6
      have Lb : L ≠ b := J.box.ne hL
      refine ⟨_, rfl, b, 8, m + 80, rfl, by decide, by decide, J6.box, fun r H7 r0 r1 B7 k7 => ?_⟩
      obtain ⟨z, hz⟩ := ints_at (ns := [0, 1, 2, 4, 1, 3, 5, 7]) (i := r) r0 (by show r < 8; exact r1)
      refine ⟨_, _, _, _, rfl, rfl, SqL.of (k7 _ _ Lb upd_same), hz, ?_⟩
      have J7 := J6.but B7 k7
      refine ⟨_, rfl, .inl ⟨rfl, _, SqL.of J7.dir⟩, _, rfl, _, rfl, .inl ⟨_, rfl, _, _, rfl, rfl, (by show (0 : Int) < 7; decide), _, rfl, ?_⟩⟩
      refine ⟨b, m, _, z, rfl, J7.box, Int.emod_nonneg _ (by decide), ?_, fun t H8 ask B8 k8 => ?_⟩
      · have := Int.emod_lt_of_pos (0 + (i : Int)) (show (0 : Int) < 7 by decide)
        omega
      have J8 := J7.but B8 k8
      refine ⟨A, _, _, rfl, rfl, J8.dir, small1000 (by rw [List.length_map]; omega), ?_⟩
      rw [hm2]
      exact ⟨ts ++ [t], _, _, _, J8.add (us := [t]) (fun u hu => by
        rw [List.mem_singleton] at hu
        subst hu
        exact ask.of fun a ha => J7.fr ha) (by rw [List.map_append]; rfl), by rw [List.length_append, hl]; rfl, rfl⟩
    · rintro σ H6 ⟨ts, v5, v6, v7, J, hl, rfl⟩
      have hl28 : ts.length = 28 := hl
      have a2 : ∀ {kind : Int}, (kind = 0 ∨ kind = 3) → Arity kind 2 := fun h => .inl ⟨h, rfl⟩
      have a3 : ∀ {kind : Int}, (kind = 1 ∨ kind = 4) → Arity kind 3 := fun h => .inr (.inl ⟨h, rfl⟩)
      have a6 : ∀ {kind : Int}, (kind = 2 ∨ kind = 5 ∨ kind = 6) → Arity kind 2 := fun h => .inr (.inr ⟨h, rfl⟩)
      refine q_ext J rfl (rqa_cons (rq (ra_cons rn_int (ra_cons (rn_rep (by decide) (by decide)) ra_nil)) (a2 (by decide))) (rqa_cons (rq (ra_cons rn_int (ra_cons (rn_rep (by decide) (by decide)) ra_nil)) (a2 (by decide))) (rqa_cons (rq (ra_cons rn_int (ra_cons (rn_rep (by decide) (by decide)) ra_nil)) (a2 (by decide)))
        (rqa_cons (rq (ra_cons rn_int (ra_cons (rn_lst (ra_cons rn_int ra_nil) (by decide)) ra_nil)) (a2 (by decide))) (rqa_cons (rq (ra_cons rn_int (ra_cons (rn_lst ra_nil (by decide)) ra_nil)) (a2 (by decide))) (rqa_cons (rq (ra_cons rn_neg (ra_cons (rn_lst (ra_cons rn_int ra_nil) (by decide)) ra_nil)) (a2 (by decide))) rqa_nil)))))) (by rw [hl28]; decide) fun t2 G2 J2 hl2 => ?_
      have one : ∀ {σ : L2.St} {H : Hp} {i : Int}, RunD K (tTup (tCons (tC (.int i)) tNil)) σ H 2 := rn_le (rn_tup (n := 1) (ra_cons rn_int ra_nil) (by decide)) (by decide)
      have r1 : ∀ {σ : L2.St} {H : Hp} {i : Int}, RunD K (tTup (tCons (tTup (tCons (tC (.int i)) tNil)) tNil)) σ H 3 := rn_tup (ra_cons one ra_nil) (by decide)
      have r2 : ∀ {σ : L2.St} {H : Hp} {i j : Int}, RunD K (tTup (tCons (tTup (tCons (tC (.int i)) tNil)) (tCons (tTup (tCons (tC (.int j)) tNil)) tNil))) σ H 3 := rn_tup (ra_cons one (ra_cons one ra_nil)) (by decide)
      have l1 : ∀ {σ : L2.St} {H : Hp} {i : Int}, RunD K (tLst (tCons (tC (.int i)) tNil)) σ H 3 := rn_lst (ra_cons rn_int ra_nil) (by decide)
      have l2 : ∀ {σ : L2.St} {H : Hp} {i j : Int}, RunD K (tLst (tCons (tC (.int i)) (tCons (tC (.int j)) tNil))) σ H 3 := rn_lst (ra_cons rn_int (ra_cons rn_int ra_nil)) (by decide)
      have l3 : ∀ {σ : L2.St} {H : Hp} {i j l : Int}, RunD K (tLst (tCons (tC (.int i)) (tCons (tC (.int j)) (tCons (tC (.int l)) tNil)))) σ H 3 := rn_lst (ra_cons rn_int (ra_cons rn_int (ra_cons rn_int ra_nil))) (by decide)
      refine q_ext J2 rfl (rqa_cons (rq (ra_cons r1 (ra_cons l1 ra_nil)) (a6 (by decide))) (rqa_cons (rq (ra_cons r1 (ra_cons l1 ra_nil)) (a6 (by decide))) (rqa_cons (rq (ra_cons r2 (ra_cons l2 ra_nil)) (a6 (by decide))) (rqa_cons (rq (ra_cons r2 (ra_cons l2 ra_nil)) (a6 (by decide))) (rqa_cons (rq (ra_cons r2 (ra_cons l3 ra_nil)) (a6 (by decide))) rqa_nil))))) (by rw [hl2, hl28]; decide) fun t3 G3 J3 hl3 => ?_
      refine q_ext J3 rfl (rqa_cons (rq (ra_cons r2 (ra_cons l3 ra_nil)) (a6 (by decide))) (rqa_cons (rq (ra_cons r2 (ra_cons l3 ra_nil)) (a6 (by decide))) (rqa_cons (rq (ra_cons rn_int (ra_cons l2 (ra_cons l2 ra_nil))) (a3 (by decide))) (rqa_cons (rq (ra_cons rn_int (ra_cons l2 (ra_cons l2 ra_nil))) (a3 (by decide))) (rqa_cons (rq (ra_cons rn_int (ra_cons l2 (ra_cons l2 ra_nil))) (a3 (by decide))) rqa_nil))))) (by rw [hl3, hl2, hl28]; decide) fun t4 G4 J4 hl4 => ?_
      have lt4 : t4.length = 44 := by rw [hl4, hl3, hl2, hl28]
      refine ⟨2, rfl, by decide, by decide, for_range (lo := 0) (n := (2 : Int).toNat) (fun i σ H' => Ex G4 H' ∧ ∃ x5 x6 x7, σ = [some (.ref a), some (.int (0 + (k : Int))), some (.ref b), some (.int named), some (.ref A), x5, x6, x7])
        ⟨Ex.refl _, _, _, _, rfl⟩ ?_ ?_⟩
      · rintro i σ H7 hi ⟨e7, x5, x6, x7, rfl⟩
        refine ⟨_, rfl, _, _, rfl, .inl ⟨_, SqL.of (e7 _ _ J4.dir), rfl⟩, _, rfl, by omega, by rw [List.length_map]; omega, for_range (lo := 0) (n := _) (fun j σ H' => Ex G4 H' ∧ ∃ x6 x7, σ = [some (.ref a), some (.int (0 + (k : Int))), some (.ref b), some (.int named), some (.ref A), some (.int (0 + (i : Int))), x6, x7])
          ⟨e7, _, _, rfl⟩ ?_ ?_⟩
        · rintro j σ H8 hj ⟨e8, x6, x7, rfl⟩
          rw [List.length_map] at hj
          have hj' : j < t4.length := by omega
          have htj : t4[j]? = some t4[j] := List.getElem?_eq_getElem hj'
          obtain ⟨kind, vt, xs, ds, c1, c2, c3, c4⟩ := J4.all _ (List.getElem_mem hj')
          have hrj : (t4.map V.ref)[j]? = some (.ref t4[j]) := by rw [List.getElem?_map, htj]; rfl
          have dir := e8 _ _ J4.dir
          have hz : (0 : Int) + (j : Int) = ((j : Nat) : Int) := Int.zero_add _
          refine ⟨_, rfl, _, rfl, _, _, _, _, rfl, rfl, SqL.of dir, at_of hz hrj, _, _, _, _, rfl, rfl, SqT.of (e8 _ _ c1), rfl, ?_⟩
          refine ⟨_, rfl, _, rfl, _, _, rfl, rfl, _, rfl, _, _, rfl, rfl, .inl ⟨_, rfl, _, _, rfl, rfl, (by show (0 : Int) < 2; decide), ?_⟩⟩
          refine ⟨_, rfl, _, rfl, _, _, _, _, rfl, rfl, SqL.of dir, at_of hz hrj, _, _, _, _, rfl, rfl, SqT.of (e8 _ _ c1), rfl, ?_⟩
          exact ⟨kind, _, vt, xs, ds, 3, _, rfl, SqT.of (e8 _ _ c2), c3.ex e8, by decide, c4, fun H9 e9 => ⟨true, rfl, iteF ⟨e8.trans e9, _, _, rfl⟩⟩⟩
        · rintro σ H8 ⟨e8, x6, x7, rfl⟩
          exact ⟨e8, _, _, _, rfl⟩
      · rintro σ H7 ⟨e7, x5, x6, x7, rfl⟩
        exact ⟨e1.trans (J4.ex.trans e7), _, _, _, _, _, _, _, rfl⟩
  · rintro σ H1 _
    exact q H1
end
end L2.U


set_option Elab.async false
set_option linter.all false
set_option maxRecDepth 100000
set_option maxHeartbeats 4000000
namespace L2.U
open PySem PySem.Spec PyProof.Rows Evl
theorem exm_of {K : PySem.W.Frag} {C D : Addr} {b : Bool} (h1 : PySem.W.subIn K (.ref D) (.type "BaseException") = some true) (h2 : PySem.W.isClsIn K D = true) (h3 : PySem.W.typeIn K (.ref D) = some (.type "type"))
    (h4 : PySem.W.subIn K (.ref C) (.ref D) = some b) : PySem.W.exmOne K (.ref C) (.ref D) = some b := by
  have h2' : (PySem.W.clsIn K D).isSome = true := h2
  unfold PySem.W.exmOne
  rw [h1, if_pos (by rfl)]
  unfold PySem.W.kitCls
  simp only [h2', h3, h4, beq_self_eq_true, Bool.and_self, if_true]
def mkDef {K : PySem.W.Frag} {h : Heap} {mg : Str → Option Value} (X : K.In h) (G : h.Ns mainGlobals mg) {x : Str} {st : Stmt} {ps : List Str} {f : Addr} {od an : Option Addr} {sl : Array (Option Value)} {oc kV dc pm cd ct : Value}
    (a : PySem.W.nsIn K mainGlobals x = some (some (.ref f))) (l : K.lookup f = some ⟨oc, od, .func (PySem.W.fnOf x x (defArgs st) (defBody st) (defScope st) .none kV dc pm an cd ct), sl⟩) (c : PySem.W.codeIn K cd x = true) (k : PySem.W.keepIn K (.ref f) = true)
    (h2 : ∀ (kV doc pm : Value) (an : Option Addr) (cdv ct : Value) (us : List Value), us.length = ps.length → bindArgs (PySem.W.fnOf x x (defArgs st) (defBody st) (defScope st) .none kV doc pm an cdv ct) ⟨us, []⟩ = pure (ps.zip us)) : DefAt K mg x st ps :=
  ⟨f, _, fun_mk (st := st) l c k, PySem.W.mg_of X G a, (fun_mk (st := st) l c k).binds h2⟩

theorem all_mk {l : PySem.W.OpenLaw} {w : World} {K : PySem.W.Frag} {h : Heap} {mg : Str → Option Value} {fa : Addr} (X : K.In h) (G : h.Ns mainGlobals mg) (hfa : mg "law" = some (.ref fa))
    {f1 : Addr} {od1 an1 : Option Addr} {sl1 : Array (Option Value)} {oc1 kV1 dc1 pm1 cd1 ct1 : Value}
    {f2 : Addr} {od2 an2 : Option Addr} {sl2 : Array (Option Value)} {oc2 kV2 dc2 pm2 cd2 ct2 : Value}
    {f3 : Addr} {od3 an3 : Option Addr} {sl3 : Array (Option Value)} {oc3 kV3 dc3 pm3 cd3 ct3 : Value}
    {f4 : Addr} {od4 an4 : Option Addr} {sl4 : Array (Option Value)} {oc4 kV4 dc4 pm4 cd4 ct4 : Value}
    {f5 : Addr} {od5 an5 : Option Addr} {sl5 : Array (Option Value)} {oc5 kV5 dc5 pm5 cd5 ct5 : Value}
    {f6 : Addr} {od6 an6 : Option Addr} {sl6 : Array (Option Value)} {oc6 kV6 dc6 pm6 cd6 ct6 : Value}
    {f7 : Addr} {od7 an7 : Option Addr} {sl7 : Array (Option Value)} {oc7 kV7 dc7 pm7 cd7 ct7 : Value}
    {f8 : Addr} {od8 an8 : Option Addr} {sl8 : Array (Option Value)} {oc8 kV8 dc8 pm8 cd8 ct8 : Value}
    {f9 : Addr} {od9 an9 : Option Addr} {sl9 : Array (Option Value)} {oc9 kV9 dc9 pm9 cd9 ct9 : Value}
    {f10 : Addr} {od10 an10 : Option Addr} {sl10 : Array (Option Value)} {oc10 kV10 dc10 pm10 cd10 ct10 : Value}
    {f11 : Addr} {od11 an11 : Option Addr} {sl11 : Array (Option Value)} {oc11 kV11 dc11 pm11 cd11 ct11 : Value}
    {f12 : Addr} {od12 an12 : Option Addr} {sl12 : Array (Option Value)} {oc12 kV12 dc12 pm12 cd12 ct12 : Value}
    {f13 : Addr} {od13 an13 : Option Addr} {sl13 : Array (Option Value)} {oc13 kV13 dc13 pm13 cd13 ct13 : Value}
    {f14 : Addr} {od14 an14 : Option Addr} {sl14 : Array (Option Value)} {oc14 kV14 dc14 pm14 cd14 ct14 : Value}
    {f15 : Addr} {od15 an15 : Option Addr} {sl15 : Array (Option Value)} {oc15 kV15 dc15 pm15 cd15 ct15 : Value}
    {f16 : Addr} {od16 an16 : Option Addr} {sl16 : Array (Option Value)} {oc16 kV16 dc16 pm16 cd16 ct16 : Value}
    {f17 : Addr} {od17 an17 : Option Addr} {sl17 : Array (Option Value)} {oc17 kV17 dc17 pm17 cd17 ct17 : Value}
    {f18 : Addr} {od18 an18 : Option Addr} {sl18 : Array (Option Value)} {oc18 kV18 dc18 pm18 cd18 ct18 : Value}
    {f19 : Addr} {od19 an19 : Option Addr} {sl19 : Array (Option Value)} {oc19 kV19 dc19 pm19 cd19 ct19 : Value}
    {f20 : Addr} {od20 an20 : Option Addr} {sl20 : Array (Option Value)} {oc20 kV20 dc20 pm20 cd20 ct20 : Value}
    {f21 : Addr} {od21 an21 : Option Addr} {sl21 : Array (Option Value)} {oc21 kV21 dc21 pm21 cd21 ct21 : Value}
    {f22 : Addr} {od22 an22 : Option Addr} {sl22 : Array (Option Value)} {oc22 kV22 dc22 pm22 cd22 ct22 : Value}
    {f23 : Addr} {od23 an23 : Option Addr} {sl23 : Array (Option Value)} {oc23 kV23 dc23 pm23 cd23 ct23 : Value}
    {f24 : Addr} {od24 an24 : Option Addr} {sl24 : Array (Option Value)} {oc24 kV24 dc24 pm24 cd24 ct24 : Value}
    {f25 : Addr} {od25 an25 : Option Addr} {sl25 : Array (Option Value)} {oc25 kV25 dc25 pm25 cd25 ct25 : Value}
    {f26 : Addr} {od26 an26 : Option Addr} {sl26 : Array (Option Value)} {oc26 kV26 dc26 pm26 cd26 ct26 : Value}
    {f27 : Addr} {od27 an27 : Option Addr} {sl27 : Array (Option Value)} {oc27 kV27 dc27 pm27 cd27 ct27 : Value}
    {f28 : Addr} {od28 an28 : Option Addr} {sl28 : Array (Option Value)} {oc28 kV28 dc28 pm28 cd28 ct28 : Value}
    {f29 : Addr} {od29 an29 : Option Addr} {sl29 : Array (Option Value)} {oc29 kV29 dc29 pm29 cd29 ct29 : Value}
    {f30 : Addr} {od30 an30 : Option Addr} {sl30 : Array (Option Value)} {oc30 kV30 dc30 pm30 cd30 ct30 : Value}
    {f31 : Addr} {od31 an31 : Option Addr} {sl31 : Array (Option Value)} {oc31 kV31 dc31 pm31 cd31 ct31 : Value}
    {f32 : Addr} {od32 an32 : Option Addr} {sl32 : Array (Option Value)} {oc32 kV32 dc32 pm32 cd32 ct32 : Value}
    {f33 : Addr} {od33 an33 : Option Addr} {sl33 : Array (Option Value)} {oc33 kV33 dc33 pm33 cd33 ct33 : Value}
    {f34 : Addr} {od34 an34 : Option Addr} {sl34 : Array (Option Value)} {oc34 kV34 dc34 pm34 cd34 ct34 : Value}
    {f35 : Addr} {od35 an35 : Option Addr} {sl35 : Array (Option Value)} {oc35 kV35 dc35 pm35 cd35 ct35 : Value}
    {f36 : Addr} {od36 an36 : Option Addr} {sl36 : Array (Option Value)} {oc36 kV36 dc36 pm36 cd36 ct36 : Value}
    {f37 : Addr} {od37 an37 : Option Addr} {sl37 : Array (Option Value)} {oc37 kV37 dc37 pm37 cd37 ct37 : Value}
    {f38 : Addr} {od38 an38 : Option Addr} {sl38 : Array (Option Value)} {oc38 kV38 dc38 pm38 cd38 ct38 : Value}
    {f39 : Addr} {od39 an39 : Option Addr} {sl39 : Array (Option Value)} {oc39 kV39 dc39 pm39 cd39 ct39 : Value}
    {f40 : Addr} {od40 an40 : Option Addr} {sl40 : Array (Option Value)} {oc40 kV40 dc40 pm40 cd40 ct40 : Value}
    {f41 : Addr} {od41 an41 : Option Addr} {sl41 : Array (Option Value)} {oc41 kV41 dc41 pm41 cd41 ct41 : Value}
    {f42 : Addr} {od42 an42 : Option Addr} {sl42 : Array (Option Value)} {oc42 kV42 dc42 pm42 cd42 ct42 : Value}
    {f43 : Addr} {od43 an43 : Option Addr} {sl43 : Array (Option Value)} {oc43 kV43 dc43 pm43 cd43 ct43 : Value}
    {f44 : Addr} {od44 an44 : Option Addr} {sl44 : Array (Option Value)} {oc44 kV44 dc44 pm44 cd44 ct44 : Value}
    {f45 : Addr} {od45 an45 : Option Addr} {sl45 : Array (Option Value)} {oc45 kV45 dc45 pm45 cd45 ct45 : Value}
    {f46 : Addr} {od46 an46 : Option Addr} {sl46 : Array (Option Value)} {oc46 kV46 dc46 pm46 cd46 ct46 : Value}
    {f47 : Addr} {od47 an47 : Option Addr} {sl47 : Array (Option Value)} {oc47 kV47 dc47 pm47 cd47 ct47 : Value}
    {f48 : Addr} {od48 an48 : Option Addr} {sl48 : Array (Option Value)} {oc48 kV48 dc48 pm48 cd48 ct48 : Value}
    {f49 : Addr} {od49 an49 : Option Addr} {sl49 : Array (Option Value)} {oc49 kV49 dc49 pm49 cd49 ct49 : Value}
    {f50 : Addr} {od50 an50 : Option Addr} {sl50 : Array (Option Value)} {oc50 kV50 dc50 pm50 cd50 ct50 : Value}
    {f51 : Addr} {od51 an51 : Option Addr} {sl51 : Array (Option Value)} {oc51 kV51 dc51 pm51 cd51 ct51 : Value}
    {f52 : Addr} {od52 an52 : Option Addr} {sl52 : Array (Option Value)} {oc52 kV52 dc52 pm52 cd52 ct52 : Value}
    {t_MOST_KINDS : Tok}
    {t_LAST_KIND : Tok}
    {t_ON_LETTERS : Tok}
    {t_ON_WIRES : Tok}
    {CT : Addr}
    {CInvalidNumber NInvalidNumber fIInvalidNumber : Addr} {nmInvalidNumber qInvalidNumber : Str} {bsInvalidNumber : List Value} {snInvalidNumber : List Str} {subInvalidNumber : List Value} {abInvalidNumber : Bool} {colInvalidNumber : Option Bool} {ddInvalidNumber : Option Addr} {m0InvalidNumber m1InvalidNumber m2InvalidNumber m3InvalidNumber m5InvalidNumber : Option Value}
    {odInvalidNumber anInvalidNumber : Option Addr} {slInvalidNumber : Array (Option Value)} {ocInvalidNumber kVInvalidNumber dcInvalidNumber pmInvalidNumber cdInvalidNumber ctInvalidNumber : Value}
    {CInvalidKinds NInvalidKinds fIInvalidKinds : Addr} {nmInvalidKinds qInvalidKinds : Str} {bsInvalidKinds : List Value} {snInvalidKinds : List Str} {subInvalidKinds : List Value} {abInvalidKinds : Bool} {colInvalidKinds : Option Bool} {ddInvalidKinds : Option Addr} {m0InvalidKinds m1InvalidKinds m2InvalidKinds m3InvalidKinds m5InvalidKinds : Option Value}
    {odInvalidKinds anInvalidKinds : Option Addr} {slInvalidKinds : Array (Option Value)} {ocInvalidKinds kVInvalidKinds dcInvalidKinds pmInvalidKinds cdInvalidKinds ctInvalidKinds : Value}
    {CInvalidSizes NInvalidSizes fIInvalidSizes : Addr} {nmInvalidSizes qInvalidSizes : Str} {bsInvalidSizes : List Value} {snInvalidSizes : List Str} {subInvalidSizes : List Value} {abInvalidSizes : Bool} {colInvalidSizes : Option Bool} {ddInvalidSizes : Option Addr} {m0InvalidSizes m1InvalidSizes m2InvalidSizes m3InvalidSizes m5InvalidSizes : Option Value}
    {odInvalidSizes anInvalidSizes : Option Addr} {slInvalidSizes : Array (Option Value)} {ocInvalidSizes kVInvalidSizes dcInvalidSizes pmInvalidSizes cdInvalidSizes ctInvalidSizes : Value}
    {CInvalidRank NInvalidRank fIInvalidRank : Addr} {nmInvalidRank qInvalidRank : Str} {bsInvalidRank : List Value} {snInvalidRank : List Str} {subInvalidRank : List Value} {abInvalidRank : Bool} {colInvalidRank : Option Bool} {ddInvalidRank : Option Addr} {m0InvalidRank m1InvalidRank m2InvalidRank m3InvalidRank m5InvalidRank : Option Value}
    {odInvalidRank anInvalidRank : Option Addr} {slInvalidRank : Array (Option Value)} {ocInvalidRank kVInvalidRank dcInvalidRank pmInvalidRank cdInvalidRank ctInvalidRank : Value}
    {CInvalidRounds NInvalidRounds fIInvalidRounds : Addr} {nmInvalidRounds qInvalidRounds : Str} {bsInvalidRounds : List Value} {snInvalidRounds : List Str} {subInvalidRounds : List Value} {abInvalidRounds : Bool} {colInvalidRounds : Option Bool} {ddInvalidRounds : Option Addr} {m0InvalidRounds m1InvalidRounds m2InvalidRounds m3InvalidRounds m5InvalidRounds : Option Value}
    {odInvalidRounds anInvalidRounds : Option Addr} {slInvalidRounds : Array (Option Value)} {ocInvalidRounds kVInvalidRounds dcInvalidRounds pmInvalidRounds cdInvalidRounds ctInvalidRounds : Value}
    (a1 : PySem.W.nsIn K mainGlobals "is_integer" = some (some (.ref f1)))
    (l1 : K.lookup f1 = some ⟨oc1, od1, .func (PySem.W.fnOf "is_integer" "is_integer" (defArgs s_is_integer) (defBody s_is_integer) (defScope s_is_integer) .none kV1 dc1 pm1 an1 cd1 ct1), sl1⟩)
    (c1 : PySem.W.codeIn K cd1 "is_integer" = true)
    (k1 : PySem.W.keepIn K (.ref f1) = true)
    (a2 : PySem.W.nsIn K mainGlobals "is_between" = some (some (.ref f2)))
    (l2 : K.lookup f2 = some ⟨oc2, od2, .func (PySem.W.fnOf "is_between" "is_between" (defArgs s_is_between) (defBody s_is_between) (defScope s_is_between) .none kV2 dc2 pm2 an2 cd2 ct2), sl2⟩)
    (c2 : PySem.W.codeIn K cd2 "is_between" = true)
    (k2 : PySem.W.keepIn K (.ref f2) = true)
    (a3 : PySem.W.nsIn K mainGlobals "is_from" = some (some (.ref f3)))
    (l3 : K.lookup f3 = some ⟨oc3, od3, .func (PySem.W.fnOf "is_from" "is_from" (defArgs s_is_from) (defBody s_is_from) (defScope s_is_from) .none kV3 dc3 pm3 an3 cd3 ct3), sl3⟩)
    (c3 : PySem.W.codeIn K cd3 "is_from" = true)
    (k3 : PySem.W.keepIn K (.ref f3) = true)
    (a4 : PySem.W.nsIn K mainGlobals "is_list" = some (some (.ref f4)))
    (l4 : K.lookup f4 = some ⟨oc4, od4, .func (PySem.W.fnOf "is_list" "is_list" (defArgs s_is_list) (defBody s_is_list) (defScope s_is_list) .none kV4 dc4 pm4 an4 cd4 ct4), sl4⟩)
    (c4 : PySem.W.codeIn K cd4 "is_list" = true)
    (k4 : PySem.W.keepIn K (.ref f4) = true)
    (a5 : PySem.W.nsIn K mainGlobals "are_from" = some (some (.ref f5)))
    (l5 : K.lookup f5 = some ⟨oc5, od5, .func (PySem.W.fnOf "are_from" "are_from" (defArgs s_are_from) (defBody s_are_from) (defScope s_are_from) .none kV5 dc5 pm5 an5 cd5 ct5), sl5⟩)
    (c5 : PySem.W.codeIn K cd5 "are_from" = true)
    (k5 : PySem.W.keepIn K (.ref f5) = true)
    (a6 : PySem.W.nsIn K mainGlobals "many_rounds" = some (some (.ref f6)))
    (l6 : K.lookup f6 = some ⟨oc6, od6, .func (PySem.W.fnOf "many_rounds" "many_rounds" (defArgs s_many_rounds) (defBody s_many_rounds) (defScope s_many_rounds) .none kV6 dc6 pm6 an6 cd6 ct6), sl6⟩)
    (c6 : PySem.W.codeIn K cd6 "many_rounds" = true)
    (k6 : PySem.W.keepIn K (.ref f6) = true)
    (a7 : PySem.W.nsIn K mainGlobals "rounds_of" = some (some (.ref f7)))
    (l7 : K.lookup f7 = some ⟨oc7, od7, .func (PySem.W.fnOf "rounds_of" "rounds_of" (defArgs s_rounds_of) (defBody s_rounds_of) (defScope s_rounds_of) .none kV7 dc7 pm7 an7 cd7 ct7), sl7⟩)
    (c7 : PySem.W.codeIn K cd7 "rounds_of" = true)
    (k7 : PySem.W.keepIn K (.ref f7) = true)
    (a8 : PySem.W.nsIn K mainGlobals "rank_of" = some (some (.ref f8)))
    (l8 : K.lookup f8 = some ⟨oc8, od8, .func (PySem.W.fnOf "rank_of" "rank_of" (defArgs s_rank_of) (defBody s_rank_of) (defScope s_rank_of) .none kV8 dc8 pm8 an8 cd8 ct8), sl8⟩)
    (c8 : PySem.W.codeIn K cd8 "rank_of" = true)
    (k8 : PySem.W.keepIn K (.ref f8) = true)
    (a9 : PySem.W.nsIn K mainGlobals "many_raised" = some (some (.ref f9)))
    (l9 : K.lookup f9 = some ⟨oc9, od9, .func (PySem.W.fnOf "many_raised" "many_raised" (defArgs s_many_raised) (defBody s_many_raised) (defScope s_many_raised) .none kV9 dc9 pm9 an9 cd9 ct9), sl9⟩)
    (c9 : PySem.W.codeIn K cd9 "many_raised" = true)
    (k9 : PySem.W.keepIn K (.ref f9) = true)
    (a10 : PySem.W.nsIn K mainGlobals "raised_of" = some (some (.ref f10)))
    (l10 : K.lookup f10 = some ⟨oc10, od10, .func (PySem.W.fnOf "raised_of" "raised_of" (defArgs s_raised_of) (defBody s_raised_of) (defScope s_raised_of) .none kV10 dc10 pm10 an10 cd10 ct10), sl10⟩)
    (c10 : PySem.W.codeIn K cd10 "raised_of" = true)
    (k10 : PySem.W.keepIn K (.ref f10) = true)
    (a11 : PySem.W.nsIn K mainGlobals "raised_rank" = some (some (.ref f11)))
    (l11 : K.lookup f11 = some ⟨oc11, od11, .func (PySem.W.fnOf "raised_rank" "raised_rank" (defArgs s_raised_rank) (defBody s_raised_rank) (defScope s_raised_rank) .none kV11 dc11 pm11 an11 cd11 ct11), sl11⟩)
    (c11 : PySem.W.codeIn K cd11 "raised_rank" = true)
    (k11 : PySem.W.keepIn K (.ref f11) = true)
    (a12 : PySem.W.nsIn K mainGlobals "answers_of" = some (some (.ref f12)))
    (l12 : K.lookup f12 = some ⟨oc12, od12, .func (PySem.W.fnOf "answers_of" "answers_of" (defArgs s_answers_of) (defBody s_answers_of) (defScope s_answers_of) .none kV12 dc12 pm12 an12 cd12 ct12), sl12⟩)
    (c12 : PySem.W.codeIn K cd12 "answers_of" = true)
    (k12 : PySem.W.keepIn K (.ref f12) = true)
    (a13 : PySem.W.nsIn K mainGlobals "_many" = some (some (.ref f13)))
    (l13 : K.lookup f13 = some ⟨oc13, od13, .func (PySem.W.fnOf "_many" "_many" (defArgs s_many) (defBody s_many) (defScope s_many) .none kV13 dc13 pm13 an13 cd13 ct13), sl13⟩)
    (c13 : PySem.W.codeIn K cd13 "_many" = true)
    (k13 : PySem.W.keepIn K (.ref f13) = true)
    (a14 : PySem.W.nsIn K mainGlobals "rounds_at" = some (some (.ref f14)))
    (l14 : K.lookup f14 = some ⟨oc14, od14, .func (PySem.W.fnOf "rounds_at" "rounds_at" (defArgs s_rounds_at) (defBody s_rounds_at) (defScope s_rounds_at) .none kV14 dc14 pm14 an14 cd14 ct14), sl14⟩)
    (c14 : PySem.W.codeIn K cd14 "rounds_at" = true)
    (k14 : PySem.W.keepIn K (.ref f14) = true)
    (a15 : PySem.W.nsIn K mainGlobals "rank_at" = some (some (.ref f15)))
    (l15 : K.lookup f15 = some ⟨oc15, od15, .func (PySem.W.fnOf "rank_at" "rank_at" (defArgs s_rank_at) (defBody s_rank_at) (defScope s_rank_at) .none kV15 dc15 pm15 an15 cd15 ct15), sl15⟩)
    (c15 : PySem.W.codeIn K cd15 "rank_at" = true)
    (k15 : PySem.W.keepIn K (.ref f15) = true)
    (a16 : PySem.W.nsIn K mainGlobals "_many_chosen" = some (some (.ref f16)))
    (l16 : K.lookup f16 = some ⟨oc16, od16, .func (PySem.W.fnOf "_many_chosen" "_many_chosen" (defArgs s_many_chosen) (defBody s_many_chosen) (defScope s_many_chosen) .none kV16 dc16 pm16 an16 cd16 ct16), sl16⟩)
    (c16 : PySem.W.codeIn K cd16 "_many_chosen" = true)
    (k16 : PySem.W.keepIn K (.ref f16) = true)
    (a17 : PySem.W.nsIn K mainGlobals "behind" = some (some (.ref f17)))
    (l17 : K.lookup f17 = some ⟨oc17, od17, .func (PySem.W.fnOf "behind" "behind" (defArgs s_behind) (defBody s_behind) (defScope s_behind) .none kV17 dc17 pm17 an17 cd17 ct17), sl17⟩)
    (c17 : PySem.W.codeIn K cd17 "behind" = true)
    (k17 : PySem.W.keepIn K (.ref f17) = true)
    (a18 : PySem.W.nsIn K mainGlobals "_chosen_at" = some (some (.ref f18)))
    (l18 : K.lookup f18 = some ⟨oc18, od18, .func (PySem.W.fnOf "_chosen_at" "_chosen_at" (defArgs s_chosen_at) (defBody s_chosen_at) (defScope s_chosen_at) .none kV18 dc18 pm18 an18 cd18 ct18), sl18⟩)
    (c18 : PySem.W.codeIn K cd18 "_chosen_at" = true)
    (k18 : PySem.W.keepIn K (.ref f18) = true)
    (a19 : PySem.W.nsIn K mainGlobals "_chosen_rank" = some (some (.ref f19)))
    (l19 : K.lookup f19 = some ⟨oc19, od19, .func (PySem.W.fnOf "_chosen_rank" "_chosen_rank" (defArgs s_chosen_rank) (defBody s_chosen_rank) (defScope s_chosen_rank) .none kV19 dc19 pm19 an19 cd19 ct19), sl19⟩)
    (c19 : PySem.W.codeIn K cd19 "_chosen_rank" = true)
    (k19 : PySem.W.keepIn K (.ref f19) = true)
    (a20 : PySem.W.nsIn K mainGlobals "_check_count" = some (some (.ref f20)))
    (l20 : K.lookup f20 = some ⟨oc20, od20, .func (PySem.W.fnOf "_check_count" "_check_count" (defArgs s_check_count) (defBody s_check_count) (defScope s_check_count) .none kV20 dc20 pm20 an20 cd20 ct20), sl20⟩)
    (c20 : PySem.W.codeIn K cd20 "_check_count" = true)
    (k20 : PySem.W.keepIn K (.ref f20) = true)
    (a21 : PySem.W.nsIn K mainGlobals "_check_kinds" = some (some (.ref f21)))
    (l21 : K.lookup f21 = some ⟨oc21, od21, .func (PySem.W.fnOf "_check_kinds" "_check_kinds" (defArgs s_check_kinds) (defBody s_check_kinds) (defScope s_check_kinds) .none kV21 dc21 pm21 an21 cd21 ct21), sl21⟩)
    (c21 : PySem.W.codeIn K cd21 "_check_kinds" = true)
    (k21 : PySem.W.keepIn K (.ref f21) = true)
    (a22 : PySem.W.nsIn K mainGlobals "_check_sizes" = some (some (.ref f22)))
    (l22 : K.lookup f22 = some ⟨oc22, od22, .func (PySem.W.fnOf "_check_sizes" "_check_sizes" (defArgs s_check_sizes) (defBody s_check_sizes) (defScope s_check_sizes) .none kV22 dc22 pm22 an22 cd22 ct22), sl22⟩)
    (c22 : PySem.W.codeIn K cd22 "_check_sizes" = true)
    (k22 : PySem.W.keepIn K (.ref f22) = true)
    (a23 : PySem.W.nsIn K mainGlobals "_check_rank" = some (some (.ref f23)))
    (l23 : K.lookup f23 = some ⟨oc23, od23, .func (PySem.W.fnOf "_check_rank" "_check_rank" (defArgs s_check_rank) (defBody s_check_rank) (defScope s_check_rank) .none kV23 dc23 pm23 an23 cd23 ct23), sl23⟩)
    (c23 : PySem.W.codeIn K cd23 "_check_rank" = true)
    (k23 : PySem.W.keepIn K (.ref f23) = true)
    (a24 : PySem.W.nsIn K mainGlobals "_check_rounds" = some (some (.ref f24)))
    (l24 : K.lookup f24 = some ⟨oc24, od24, .func (PySem.W.fnOf "_check_rounds" "_check_rounds" (defArgs s_check_rounds) (defBody s_check_rounds) (defScope s_check_rounds) .none kV24 dc24 pm24 an24 cd24 ct24), sl24⟩)
    (c24 : PySem.W.codeIn K cd24 "_check_rounds" = true)
    (k24 : PySem.W.keepIn K (.ref f24) = true)
    (a25 : PySem.W.nsIn K mainGlobals "_are_rounds" = some (some (.ref f25)))
    (l25 : K.lookup f25 = some ⟨oc25, od25, .func (PySem.W.fnOf "_are_rounds" "_are_rounds" (defArgs s_are_rounds) (defBody s_are_rounds) (defScope s_are_rounds) .none kV25 dc25 pm25 an25 cd25 ct25), sl25⟩)
    (c25 : PySem.W.codeIn K cd25 "_are_rounds" = true)
    (k25 : PySem.W.keepIn K (.ref f25) = true)
    (a26 : PySem.W.nsIn K mainGlobals "_is_chosen" = some (some (.ref f26)))
    (l26 : K.lookup f26 = some ⟨oc26, od26, .func (PySem.W.fnOf "_is_chosen" "_is_chosen" (defArgs s_is_chosen) (defBody s_is_chosen) (defScope s_is_chosen) .none kV26 dc26 pm26 an26 cd26 ct26), sl26⟩)
    (c26 : PySem.W.codeIn K cd26 "_is_chosen" = true)
    (k26 : PySem.W.keepIn K (.ref f26) = true)
    (a27 : PySem.W.nsIn K mainGlobals "is_ascending" = some (some (.ref f27)))
    (l27 : K.lookup f27 = some ⟨oc27, od27, .func (PySem.W.fnOf "is_ascending" "is_ascending" (defArgs s_is_ascending) (defBody s_is_ascending) (defScope s_is_ascending) .none kV27 dc27 pm27 an27 cd27 ct27), sl27⟩)
    (c27 : PySem.W.codeIn K cd27 "is_ascending" = true)
    (k27 : PySem.W.keepIn K (.ref f27) = true)
    (a28 : PySem.W.nsIn K mainGlobals "are_between" = some (some (.ref f28)))
    (l28 : K.lookup f28 = some ⟨oc28, od28, .func (PySem.W.fnOf "are_between" "are_between" (defArgs s_are_between) (defBody s_are_between) (defScope s_are_between) .none kV28 dc28 pm28 an28 cd28 ct28), sl28⟩)
    (c28 : PySem.W.codeIn K cd28 "are_between" = true)
    (k28 : PySem.W.keepIn K (.ref f28) = true)
    (a29 : PySem.W.nsIn K mainGlobals "_law_cell" = some (some (.ref f29)))
    (l29 : K.lookup f29 = some ⟨oc29, od29, .func (PySem.W.fnOf "_law_cell" "_law_cell" (defArgs s_law_cell) (defBody s_law_cell) (defScope s_law_cell) .none kV29 dc29 pm29 an29 cd29 ct29), sl29⟩)
    (c29 : PySem.W.codeIn K cd29 "_law_cell" = true)
    (k29 : PySem.W.keepIn K (.ref f29) = true)
    (a30 : PySem.W.nsIn K mainGlobals "_law_box" = some (some (.ref f30)))
    (l30 : K.lookup f30 = some ⟨oc30, od30, .func (PySem.W.fnOf "_law_box" "_law_box" (defArgs s_law_box) (defBody s_law_box) (defScope s_law_box) .none kV30 dc30 pm30 an30 cd30 ct30), sl30⟩)
    (c30 : PySem.W.codeIn K cd30 "_law_box" = true)
    (k30 : PySem.W.keepIn K (.ref f30) = true)
    (a31 : PySem.W.nsIn K mainGlobals "_law_take" = some (some (.ref f31)))
    (l31 : K.lookup f31 = some ⟨oc31, od31, .func (PySem.W.fnOf "_law_take" "_law_take" (defArgs s_law_take) (defBody s_law_take) (defScope s_law_take) .none kV31 dc31 pm31 an31 cd31 ct31), sl31⟩)
    (c31 : PySem.W.codeIn K cd31 "_law_take" = true)
    (k31 : PySem.W.keepIn K (.ref f31) = true)
    (a32 : PySem.W.nsIn K mainGlobals "_law_same" = some (some (.ref f32)))
    (l32 : K.lookup f32 = some ⟨oc32, od32, .func (PySem.W.fnOf "_law_same" "_law_same" (defArgs s_law_same) (defBody s_law_same) (defScope s_law_same) .none kV32 dc32 pm32 an32 cd32 ct32), sl32⟩)
    (c32 : PySem.W.codeIn K cd32 "_law_same" = true)
    (k32 : PySem.W.keepIn K (.ref f32) = true)
    (a33 : PySem.W.nsIn K mainGlobals "_law_choose" = some (some (.ref f33)))
    (l33 : K.lookup f33 = some ⟨oc33, od33, .func (PySem.W.fnOf "_law_choose" "_law_choose" (defArgs s_law_choose) (defBody s_law_choose) (defScope s_law_choose) .none kV33 dc33 pm33 an33 cd33 ct33), sl33⟩)
    (c33 : PySem.W.codeIn K cd33 "_law_choose" = true)
    (k33 : PySem.W.keepIn K (.ref f33) = true)
    (a34 : PySem.W.nsIn K mainGlobals "_law_many" = some (some (.ref f34)))
    (l34 : K.lookup f34 = some ⟨oc34, od34, .func (PySem.W.fnOf "_law_many" "_law_many" (defArgs s_law_many) (defBody s_law_many) (defScope s_law_many) .none kV34 dc34 pm34 an34 cd34 ct34), sl34⟩)
    (c34 : PySem.W.codeIn K cd34 "_law_many" = true)
    (k34 : PySem.W.keepIn K (.ref f34) = true)
    (a35 : PySem.W.nsIn K mainGlobals "_law_is_between" = some (some (.ref f35)))
    (l35 : K.lookup f35 = some ⟨oc35, od35, .func (PySem.W.fnOf "_law_is_between" "_law_is_between" (defArgs s_law_is_between) (defBody s_law_is_between) (defScope s_law_is_between) .none kV35 dc35 pm35 an35 cd35 ct35), sl35⟩)
    (c35 : PySem.W.codeIn K cd35 "_law_is_between" = true)
    (k35 : PySem.W.keepIn K (.ref f35) = true)
    (a36 : PySem.W.nsIn K mainGlobals "_law_are_kinds" = some (some (.ref f36)))
    (l36 : K.lookup f36 = some ⟨oc36, od36, .func (PySem.W.fnOf "_law_are_kinds" "_law_are_kinds" (defArgs s_law_are_kinds) (defBody s_law_are_kinds) (defScope s_law_are_kinds) .none kV36 dc36 pm36 an36 cd36 ct36), sl36⟩)
    (c36 : PySem.W.codeIn K cd36 "_law_are_kinds" = true)
    (k36 : PySem.W.keepIn K (.ref f36) = true)
    (a37 : PySem.W.nsIn K mainGlobals "_law_are_sizes" = some (some (.ref f37)))
    (l37 : K.lookup f37 = some ⟨oc37, od37, .func (PySem.W.fnOf "_law_are_sizes" "_law_are_sizes" (defArgs s_law_are_sizes) (defBody s_law_are_sizes) (defScope s_law_are_sizes) .none kV37 dc37 pm37 an37 cd37 ct37), sl37⟩)
    (c37 : PySem.W.codeIn K cd37 "_law_are_sizes" = true)
    (k37 : PySem.W.keepIn K (.ref f37) = true)
    (a38 : PySem.W.nsIn K mainGlobals "_law_are_rounds" = some (some (.ref f38)))
    (l38 : K.lookup f38 = some ⟨oc38, od38, .func (PySem.W.fnOf "_law_are_rounds" "_law_are_rounds" (defArgs s_law_are_rounds) (defBody s_law_are_rounds) (defScope s_law_are_rounds) .none kV38 dc38 pm38 an38 cd38 ct38), sl38⟩)
    (c38 : PySem.W.codeIn K cd38 "_law_are_rounds" = true)
    (k38 : PySem.W.keepIn K (.ref f38) = true)
    (a39 : PySem.W.nsIn K mainGlobals "_law_refused" = some (some (.ref f39)))
    (l39 : K.lookup f39 = some ⟨oc39, od39, .func (PySem.W.fnOf "_law_refused" "_law_refused" (defArgs s_law_refused) (defBody s_law_refused) (defScope s_law_refused) .none kV39 dc39 pm39 an39 cd39 ct39), sl39⟩)
    (c39 : PySem.W.codeIn K cd39 "_law_refused" = true)
    (k39 : PySem.W.keepIn K (.ref f39) = true)
    (a40 : PySem.W.nsIn K mainGlobals "_law_asked" = some (some (.ref f40)))
    (l40 : K.lookup f40 = some ⟨oc40, od40, .func (PySem.W.fnOf "_law_asked" "_law_asked" (defArgs s_law_asked) (defBody s_law_asked) (defScope s_law_asked) .none kV40 dc40 pm40 an40 cd40 ct40), sl40⟩)
    (c40 : PySem.W.codeIn K cd40 "_law_asked" = true)
    (k40 : PySem.W.keepIn K (.ref f40) = true)
    (a41 : PySem.W.nsIn K mainGlobals "_law_told" = some (some (.ref f41)))
    (l41 : K.lookup f41 = some ⟨oc41, od41, .func (PySem.W.fnOf "_law_told" "_law_told" (defArgs s_law_told) (defBody s_law_told) (defScope s_law_told) .none kV41 dc41 pm41 an41 cd41 ct41), sl41⟩)
    (c41 : PySem.W.codeIn K cd41 "_law_told" = true)
    (k41 : PySem.W.keepIn K (.ref f41) = true)
    (a42 : PySem.W.nsIn K mainGlobals "_law_right" = some (some (.ref f42)))
    (l42 : K.lookup f42 = some ⟨oc42, od42, .func (PySem.W.fnOf "_law_right" "_law_right" (defArgs s_law_right) (defBody s_law_right) (defScope s_law_right) .none kV42 dc42 pm42 an42 cd42 ct42), sl42⟩)
    (c42 : PySem.W.codeIn K cd42 "_law_right" = true)
    (k42 : PySem.W.keepIn K (.ref f42) = true)
    (a43 : PySem.W.nsIn K mainGlobals "_law_kinds" = some (some (.ref f43)))
    (l43 : K.lookup f43 = some ⟨oc43, od43, .func (PySem.W.fnOf "_law_kinds" "_law_kinds" (defArgs s_law_kinds) (defBody s_law_kinds) (defScope s_law_kinds) .none kV43 dc43 pm43 an43 cd43 ct43), sl43⟩)
    (c43 : PySem.W.codeIn K cd43 "_law_kinds" = true)
    (k43 : PySem.W.keepIn K (.ref f43) = true)
    (a44 : PySem.W.nsIn K mainGlobals "_law_sizes" = some (some (.ref f44)))
    (l44 : K.lookup f44 = some ⟨oc44, od44, .func (PySem.W.fnOf "_law_sizes" "_law_sizes" (defArgs s_law_sizes) (defBody s_law_sizes) (defScope s_law_sizes) .none kV44 dc44 pm44 an44 cd44 ct44), sl44⟩)
    (c44 : PySem.W.codeIn K cd44 "_law_sizes" = true)
    (k44 : PySem.W.keepIn K (.ref f44) = true)
    (a45 : PySem.W.nsIn K mainGlobals "_law_drawn" = some (some (.ref f45)))
    (l45 : K.lookup f45 = some ⟨oc45, od45, .func (PySem.W.fnOf "_law_drawn" "_law_drawn" (defArgs s_law_drawn) (defBody s_law_drawn) (defScope s_law_drawn) .none kV45 dc45 pm45 an45 cd45 ct45), sl45⟩)
    (c45 : PySem.W.codeIn K cd45 "_law_drawn" = true)
    (k45 : PySem.W.keepIn K (.ref f45) = true)
    (a46 : PySem.W.nsIn K mainGlobals "_law_odd" = some (some (.ref f46)))
    (l46 : K.lookup f46 = some ⟨oc46, od46, .func (PySem.W.fnOf "_law_odd" "_law_odd" (defArgs s_law_odd) (defBody s_law_odd) (defScope s_law_odd) .none kV46 dc46 pm46 an46 cd46 ct46), sl46⟩)
    (c46 : PySem.W.codeIn K cd46 "_law_odd" = true)
    (k46 : PySem.W.keepIn K (.ref f46) = true)
    (a47 : PySem.W.nsIn K mainGlobals "_law_spoilt_list" = some (some (.ref f47)))
    (l47 : K.lookup f47 = some ⟨oc47, od47, .func (PySem.W.fnOf "_law_spoilt_list" "_law_spoilt_list" (defArgs s_law_spoilt_list) (defBody s_law_spoilt_list) (defScope s_law_spoilt_list) .none kV47 dc47 pm47 an47 cd47 ct47), sl47⟩)
    (c47 : PySem.W.codeIn K cd47 "_law_spoilt_list" = true)
    (k47 : PySem.W.keepIn K (.ref f47) = true)
    (a48 : PySem.W.nsIn K mainGlobals "_law_spoilt_kinds" = some (some (.ref f48)))
    (l48 : K.lookup f48 = some ⟨oc48, od48, .func (PySem.W.fnOf "_law_spoilt_kinds" "_law_spoilt_kinds" (defArgs s_law_spoilt_kinds) (defBody s_law_spoilt_kinds) (defScope s_law_spoilt_kinds) .none kV48 dc48 pm48 an48 cd48 ct48), sl48⟩)
    (c48 : PySem.W.codeIn K cd48 "_law_spoilt_kinds" = true)
    (k48 : PySem.W.keepIn K (.ref f48) = true)
    (a49 : PySem.W.nsIn K mainGlobals "_law_spoilt_sizes" = some (some (.ref f49)))
    (l49 : K.lookup f49 = some ⟨oc49, od49, .func (PySem.W.fnOf "_law_spoilt_sizes" "_law_spoilt_sizes" (defArgs s_law_spoilt_sizes) (defBody s_law_spoilt_sizes) (defScope s_law_spoilt_sizes) .none kV49 dc49 pm49 an49 cd49 ct49), sl49⟩)
    (c49 : PySem.W.codeIn K cd49 "_law_spoilt_sizes" = true)
    (k49 : PySem.W.keepIn K (.ref f49) = true)
    (a50 : PySem.W.nsIn K mainGlobals "_law_spoilt_rounds" = some (some (.ref f50)))
    (l50 : K.lookup f50 = some ⟨oc50, od50, .func (PySem.W.fnOf "_law_spoilt_rounds" "_law_spoilt_rounds" (defArgs s_law_spoilt_rounds) (defBody s_law_spoilt_rounds) (defScope s_law_spoilt_rounds) .none kV50 dc50 pm50 an50 cd50 ct50), sl50⟩)
    (c50 : PySem.W.codeIn K cd50 "_law_spoilt_rounds" = true)
    (k50 : PySem.W.keepIn K (.ref f50) = true)
    (a51 : PySem.W.nsIn K mainGlobals "_law_question" = some (some (.ref f51)))
    (l51 : K.lookup f51 = some ⟨oc51, od51, .func (PySem.W.fnOf "_law_question" "_law_question" (defArgs s_law_question) (defBody s_law_question) (defScope s_law_question) .none kV51 dc51 pm51 an51 cd51 ct51), sl51⟩)
    (c51 : PySem.W.codeIn K cd51 "_law_question" = true)
    (k51 : PySem.W.keepIn K (.ref f51) = true)
    (a52 : PySem.W.nsIn K mainGlobals "law" = some (some (.ref f52)))
    (l52 : K.lookup f52 = some ⟨oc52, od52, .func (PySem.W.fnOf "law" "law" (defArgs s_law) (defBody s_law) (defScope s_law) .none kV52 dc52 pm52 an52 cd52 ct52), sl52⟩)
    (c52 : PySem.W.codeIn K cd52 "law" = true)
    (k52 : PySem.W.keepIn K (.ref f52) = true)
    (z_int : PySem.W.nsIn K mainGlobals "int" = some none)
    (z_bool : PySem.W.nsIn K mainGlobals "bool" = some none)
    (z_str : PySem.W.nsIn K mainGlobals "str" = some none)
    (z_list : PySem.W.nsIn K mainGlobals "list" = some none)
    (z_tuple : PySem.W.nsIn K mainGlobals "tuple" = some none)
    (z_len : PySem.W.nsIn K mainGlobals "len" = some none)
    (z_sum : PySem.W.nsIn K mainGlobals "sum" = some none)
    (z_abs : PySem.W.nsIn K mainGlobals "abs" = some none)
    (z_all : PySem.W.nsIn K mainGlobals "all" = some none)
    (z_range : PySem.W.nsIn K mainGlobals "range" = some none)
    (z_isinstance : PySem.W.nsIn K mainGlobals "isinstance" = some none)
    (z_enumerate : PySem.W.nsIn K mainGlobals "enumerate" = some none)
    (z_max : PySem.W.nsIn K mainGlobals "max" = some none)
    (z_min : PySem.W.nsIn K mainGlobals "min" = some none)
    (z_sorted : PySem.W.nsIn K mainGlobals "sorted" = some none)
    (c_MOST_KINDS : PySem.W.nsIn K mainGlobals "MOST_KINDS" = some (some (.int 16 t_MOST_KINDS)))
    (c_LAST_KIND : PySem.W.nsIn K mainGlobals "LAST_KIND" = some (some (.int 64 t_LAST_KIND)))
    (c_ON_LETTERS : PySem.W.nsIn K mainGlobals "ON_LETTERS" = some (some (.int 0 t_ON_LETTERS)))
    (c_ON_WIRES : PySem.W.nsIn K mainGlobals "ON_WIRES" = some (some (.int 1 t_ON_WIRES)))
    (c_comb : PySem.W.nsIn K mainGlobals "comb" = some (some (.builtin "math.comb")))
    (aCT : PySem.W.nsIn K mainGlobals "TalkError" = some (some (.ref CT)))
    (aCInvalidNumber : PySem.W.nsIn K mainGlobals "InvalidNumber" = some (some (.ref CInvalidNumber)))
    (xLInvalidNumber : K.lookup CInvalidNumber = some (excClassObj nmInvalidNumber qInvalidNumber CInvalidNumber NInvalidNumber bsInvalidNumber [.ref CT, .type "ValueError", .type "Exception", .type "BaseException", .type "object"] true snInvalidNumber subInvalidNumber abInvalidNumber colInvalidNumber ddInvalidNumber m0InvalidNumber m1InvalidNumber m2InvalidNumber m3InvalidNumber m5InvalidNumber "ValueError.__new__"))
    (saInvalidNumber : PySem.W.findIn K (.ref CInvalidNumber) "__setattr__" = some (some (.builtin "object.__setattr__")))
    (gaInvalidNumber : PySem.W.findIn K (.ref CInvalidNumber) "__getattribute__" = some (some (.builtin "BaseException.__getattribute__")))
    (ggInvalidNumber : PySem.W.findIn K (.ref CInvalidNumber) "__getattr__" = some none)
    (nbInvalidNumber : PySem.W.findIn K (.ref CInvalidNumber) "given" = some none)
    (iCInvalidNumber : PySem.W.findIn K (.ref CInvalidNumber) "__init__" = some (some (.ref fIInvalidNumber)))
    (tIInvalidNumber : PySem.W.typeIn K (.ref fIInvalidNumber) = some (.type "function"))
    (lIInvalidNumber : K.lookup fIInvalidNumber = some ⟨ocInvalidNumber, odInvalidNumber, .func (PySem.W.fnOf "__init__" "InvalidNumber.__init__" (defArgs s_init_InvalidNumber) (defBody s_init_InvalidNumber) (defScope s_init_InvalidNumber) .none kVInvalidNumber dcInvalidNumber pmInvalidNumber anInvalidNumber cdInvalidNumber ctInvalidNumber), slInvalidNumber⟩)
    (cIInvalidNumber : PySem.W.codeIn K cdInvalidNumber "InvalidNumber.__init__" = true)
    (kIInvalidNumber : PySem.W.keepIn K (.ref fIInvalidNumber) = true)
    (kCInvalidNumber : PySem.W.keepIn K (.ref CInvalidNumber) = true)
    (eCInvalidNumber : PySem.W.subIn K (.ref CInvalidNumber) (.type "BaseException") = some true)
    (tCInvalidNumber : PySem.W.typeIn K (.ref CInvalidNumber) = some (.type "type"))
    (hCInvalidNumber : PySem.W.hasDictIn K CInvalidNumber = true)
    (iSInvalidNumber : PySem.W.isClsIn K CInvalidNumber = true)
    (aCInvalidKinds : PySem.W.nsIn K mainGlobals "InvalidKinds" = some (some (.ref CInvalidKinds)))
    (xLInvalidKinds : K.lookup CInvalidKinds = some (excClassObj nmInvalidKinds qInvalidKinds CInvalidKinds NInvalidKinds bsInvalidKinds [.ref CT, .type "ValueError", .type "Exception", .type "BaseException", .type "object"] true snInvalidKinds subInvalidKinds abInvalidKinds colInvalidKinds ddInvalidKinds m0InvalidKinds m1InvalidKinds m2InvalidKinds m3InvalidKinds m5InvalidKinds "ValueError.__new__"))
    (saInvalidKinds : PySem.W.findIn K (.ref CInvalidKinds) "__setattr__" = some (some (.builtin "object.__setattr__")))
    (gaInvalidKinds : PySem.W.findIn K (.ref CInvalidKinds) "__getattribute__" = some (some (.builtin "BaseException.__getattribute__")))
    (ggInvalidKinds : PySem.W.findIn K (.ref CInvalidKinds) "__getattr__" = some none)
    (nbInvalidKinds : PySem.W.findIn K (.ref CInvalidKinds) "given" = some none)
    (iCInvalidKinds : PySem.W.findIn K (.ref CInvalidKinds) "__init__" = some (some (.ref fIInvalidKinds)))
    (tIInvalidKinds : PySem.W.typeIn K (.ref fIInvalidKinds) = some (.type "function"))
    (lIInvalidKinds : K.lookup fIInvalidKinds = some ⟨ocInvalidKinds, odInvalidKinds, .func (PySem.W.fnOf "__init__" "InvalidKinds.__init__" (defArgs s_init_InvalidKinds) (defBody s_init_InvalidKinds) (defScope s_init_InvalidKinds) .none kVInvalidKinds dcInvalidKinds pmInvalidKinds anInvalidKinds cdInvalidKinds ctInvalidKinds), slInvalidKinds⟩)
    (cIInvalidKinds : PySem.W.codeIn K cdInvalidKinds "InvalidKinds.__init__" = true)
    (kIInvalidKinds : PySem.W.keepIn K (.ref fIInvalidKinds) = true)
    (kCInvalidKinds : PySem.W.keepIn K (.ref CInvalidKinds) = true)
    (eCInvalidKinds : PySem.W.subIn K (.ref CInvalidKinds) (.type "BaseException") = some true)
    (tCInvalidKinds : PySem.W.typeIn K (.ref CInvalidKinds) = some (.type "type"))
    (hCInvalidKinds : PySem.W.hasDictIn K CInvalidKinds = true)
    (iSInvalidKinds : PySem.W.isClsIn K CInvalidKinds = true)
    (aCInvalidSizes : PySem.W.nsIn K mainGlobals "InvalidSizes" = some (some (.ref CInvalidSizes)))
    (xLInvalidSizes : K.lookup CInvalidSizes = some (excClassObj nmInvalidSizes qInvalidSizes CInvalidSizes NInvalidSizes bsInvalidSizes [.ref CT, .type "ValueError", .type "Exception", .type "BaseException", .type "object"] true snInvalidSizes subInvalidSizes abInvalidSizes colInvalidSizes ddInvalidSizes m0InvalidSizes m1InvalidSizes m2InvalidSizes m3InvalidSizes m5InvalidSizes "ValueError.__new__"))
    (saInvalidSizes : PySem.W.findIn K (.ref CInvalidSizes) "__setattr__" = some (some (.builtin "object.__setattr__")))
    (gaInvalidSizes : PySem.W.findIn K (.ref CInvalidSizes) "__getattribute__" = some (some (.builtin "BaseException.__getattribute__")))
    (ggInvalidSizes : PySem.W.findIn K (.ref CInvalidSizes) "__getattr__" = some none)
    (nbInvalidSizes : PySem.W.findIn K (.ref CInvalidSizes) "given" = some none)
    (iCInvalidSizes : PySem.W.findIn K (.ref CInvalidSizes) "__init__" = some (some (.ref fIInvalidSizes)))
    (tIInvalidSizes : PySem.W.typeIn K (.ref fIInvalidSizes) = some (.type "function"))
    (lIInvalidSizes : K.lookup fIInvalidSizes = some ⟨ocInvalidSizes, odInvalidSizes, .func (PySem.W.fnOf "__init__" "InvalidSizes.__init__" (defArgs s_init_InvalidSizes) (defBody s_init_InvalidSizes) (defScope s_init_InvalidSizes) .none kVInvalidSizes dcInvalidSizes pmInvalidSizes anInvalidSizes cdInvalidSizes ctInvalidSizes), slInvalidSizes⟩)
    (cIInvalidSizes : PySem.W.codeIn K cdInvalidSizes "InvalidSizes.__init__" = true)
    (kIInvalidSizes : PySem.W.keepIn K (.ref fIInvalidSizes) = true)
    (kCInvalidSizes : PySem.W.keepIn K (.ref CInvalidSizes) = true)
    (eCInvalidSizes : PySem.W.subIn K (.ref CInvalidSizes) (.type "BaseException") = some true)
    (tCInvalidSizes : PySem.W.typeIn K (.ref CInvalidSizes) = some (.type "type"))
    (hCInvalidSizes : PySem.W.hasDictIn K CInvalidSizes = true)
    (iSInvalidSizes : PySem.W.isClsIn K CInvalidSizes = true)
    (aCInvalidRank : PySem.W.nsIn K mainGlobals "InvalidRank" = some (some (.ref CInvalidRank)))
    (xLInvalidRank : K.lookup CInvalidRank = some (excClassObj nmInvalidRank qInvalidRank CInvalidRank NInvalidRank bsInvalidRank [.ref CT, .type "ValueError", .type "Exception", .type "BaseException", .type "object"] true snInvalidRank subInvalidRank abInvalidRank colInvalidRank ddInvalidRank m0InvalidRank m1InvalidRank m2InvalidRank m3InvalidRank m5InvalidRank "ValueError.__new__"))
    (saInvalidRank : PySem.W.findIn K (.ref CInvalidRank) "__setattr__" = some (some (.builtin "object.__setattr__")))
    (gaInvalidRank : PySem.W.findIn K (.ref CInvalidRank) "__getattribute__" = some (some (.builtin "BaseException.__getattribute__")))
    (ggInvalidRank : PySem.W.findIn K (.ref CInvalidRank) "__getattr__" = some none)
    (nbInvalidRank : PySem.W.findIn K (.ref CInvalidRank) "given" = some none)
    (iCInvalidRank : PySem.W.findIn K (.ref CInvalidRank) "__init__" = some (some (.ref fIInvalidRank)))
    (tIInvalidRank : PySem.W.typeIn K (.ref fIInvalidRank) = some (.type "function"))
    (lIInvalidRank : K.lookup fIInvalidRank = some ⟨ocInvalidRank, odInvalidRank, .func (PySem.W.fnOf "__init__" "InvalidRank.__init__" (defArgs s_init_InvalidRank) (defBody s_init_InvalidRank) (defScope s_init_InvalidRank) .none kVInvalidRank dcInvalidRank pmInvalidRank anInvalidRank cdInvalidRank ctInvalidRank), slInvalidRank⟩)
    (cIInvalidRank : PySem.W.codeIn K cdInvalidRank "InvalidRank.__init__" = true)
    (kIInvalidRank : PySem.W.keepIn K (.ref fIInvalidRank) = true)
    (kCInvalidRank : PySem.W.keepIn K (.ref CInvalidRank) = true)
    (eCInvalidRank : PySem.W.subIn K (.ref CInvalidRank) (.type "BaseException") = some true)
    (tCInvalidRank : PySem.W.typeIn K (.ref CInvalidRank) = some (.type "type"))
    (hCInvalidRank : PySem.W.hasDictIn K CInvalidRank = true)
    (iSInvalidRank : PySem.W.isClsIn K CInvalidRank = true)
    (aCInvalidRounds : PySem.W.nsIn K mainGlobals "InvalidRounds" = some (some (.ref CInvalidRounds)))
    (xLInvalidRounds : K.lookup CInvalidRounds = some (excClassObj nmInvalidRounds qInvalidRounds CInvalidRounds NInvalidRounds bsInvalidRounds [.ref CT, .type "ValueError", .type "Exception", .type "BaseException", .type "object"] true snInvalidRounds subInvalidRounds abInvalidRounds colInvalidRounds ddInvalidRounds m0InvalidRounds m1InvalidRounds m2InvalidRounds m3InvalidRounds m5InvalidRounds "ValueError.__new__"))
    (saInvalidRounds : PySem.W.findIn K (.ref CInvalidRounds) "__setattr__" = some (some (.builtin "object.__setattr__")))
    (gaInvalidRounds : PySem.W.findIn K (.ref CInvalidRounds) "__getattribute__" = some (some (.builtin "BaseException.__getattribute__")))
    (ggInvalidRounds : PySem.W.findIn K (.ref CInvalidRounds) "__getattr__" = some none)
    (nbInvalidRounds : PySem.W.findIn K (.ref CInvalidRounds) "given" = some none)
    (iCInvalidRounds : PySem.W.findIn K (.ref CInvalidRounds) "__init__" = some (some (.ref fIInvalidRounds)))
    (tIInvalidRounds : PySem.W.typeIn K (.ref fIInvalidRounds) = some (.type "function"))
    (lIInvalidRounds : K.lookup fIInvalidRounds = some ⟨ocInvalidRounds, odInvalidRounds, .func (PySem.W.fnOf "__init__" "InvalidRounds.__init__" (defArgs s_init_InvalidRounds) (defBody s_init_InvalidRounds) (defScope s_init_InvalidRounds) .none kVInvalidRounds dcInvalidRounds pmInvalidRounds anInvalidRounds cdInvalidRounds ctInvalidRounds), slInvalidRounds⟩)
    (cIInvalidRounds : PySem.W.codeIn K cdInvalidRounds "InvalidRounds.__init__" = true)
    (kIInvalidRounds : PySem.W.keepIn K (.ref fIInvalidRounds) = true)
    (kCInvalidRounds : PySem.W.keepIn K (.ref CInvalidRounds) = true)
    (eCInvalidRounds : PySem.W.subIn K (.ref CInvalidRounds) (.type "BaseException") = some true)
    (tCInvalidRounds : PySem.W.typeIn K (.ref CInvalidRounds) = some (.type "type"))
    (hCInvalidRounds : PySem.W.hasDictIn K CInvalidRounds = true)
    (iSInvalidRounds : PySem.W.isClsIn K CInvalidRounds = true)
    (eNN : PySem.W.subIn K (.ref CInvalidNumber) (.ref CInvalidNumber) = some true)
    (eKN : PySem.W.subIn K (.ref CInvalidKinds) (.ref CInvalidNumber) = some false)
    (eKK : PySem.W.subIn K (.ref CInvalidKinds) (.ref CInvalidKinds) = some true)
    (eSN : PySem.W.subIn K (.ref CInvalidSizes) (.ref CInvalidNumber) = some false)
    (eSK : PySem.W.subIn K (.ref CInvalidSizes) (.ref CInvalidKinds) = some false)
    (eSS : PySem.W.subIn K (.ref CInvalidSizes) (.ref CInvalidSizes) = some true)
    (eRN : PySem.W.subIn K (.ref CInvalidRank) (.ref CInvalidNumber) = some false)
    (eRK : PySem.W.subIn K (.ref CInvalidRank) (.ref CInvalidKinds) = some false)
    (eRS : PySem.W.subIn K (.ref CInvalidRank) (.ref CInvalidSizes) = some false)
    (eRR : PySem.W.subIn K (.ref CInvalidRank) (.ref CInvalidRank) = some true)
    (eON : PySem.W.subIn K (.ref CInvalidRounds) (.ref CInvalidNumber) = some false)
    (eOK : PySem.W.subIn K (.ref CInvalidRounds) (.ref CInvalidKinds) = some false)
    (eOS : PySem.W.subIn K (.ref CInvalidRounds) (.ref CInvalidSizes) = some false)
    (eOR : PySem.W.subIn K (.ref CInvalidRounds) (.ref CInvalidRank) = some false)
    (eOO : PySem.W.subIn K (.ref CInvalidRounds) (.ref CInvalidRounds) = some true) :
    ∃ fd : FuncData, (∀ (s : Shared) (v : Value), BindsTo s fd ⟨[v], []⟩ [("script", v)]) ∧ ∀ base : Heap, K.In base → base.Ns mainGlobals mg → FnOk l.prog w K mg base CX0 11 fa fd ["script"] (spLaw K) := by
  have e := hfa.symm.trans (PySem.W.mg_of X G a52)
  cases e
  let T : TK K mg := {
    is_integer := mkDef X G a1 l1 c1 k1 (fun _ _ _ _ _ _ us hl => match us, hl with | [_], _ => rfl)
    is_between := mkDef X G a2 l2 c2 k2 (fun _ _ _ _ _ _ us hl => match us, hl with | [_, _, _], _ => rfl)
    is_from := mkDef X G a3 l3 c3 k3 (fun _ _ _ _ _ _ us hl => match us, hl with | [_, _], _ => rfl)
    is_list := mkDef X G a4 l4 c4 k4 (fun _ _ _ _ _ _ us hl => match us, hl with | [_], _ => rfl)
    are_from := mkDef X G a5 l5 c5 k5 (fun _ _ _ _ _ _ us hl => match us, hl with | [_, _], _ => rfl)
    many_rounds := mkDef X G a6 l6 c6 k6 (fun _ _ _ _ _ _ us hl => match us, hl with | [_, _], _ => rfl)
    rounds_of := mkDef X G a7 l7 c7 k7 (fun _ _ _ _ _ _ us hl => match us, hl with | [_, _, _], _ => rfl)
    rank_of := mkDef X G a8 l8 c8 k8 (fun _ _ _ _ _ _ us hl => match us, hl with | [_, _], _ => rfl)
    many_raised := mkDef X G a9 l9 c9 k9 (fun _ _ _ _ _ _ us hl => match us, hl with | [_, _], _ => rfl)
    raised_of := mkDef X G a10 l10 c10 k10 (fun _ _ _ _ _ _ us hl => match us, hl with | [_, _, _], _ => rfl)
    raised_rank := mkDef X G a11 l11 c11 k11 (fun _ _ _ _ _ _ us hl => match us, hl with | [_, _], _ => rfl)
    answers_of := mkDef X G a12 l12 c12 k12 (fun _ _ _ _ _ _ us hl => match us, hl with | [_, _], _ => rfl)
    many := mkDef X G a13 l13 c13 k13 (fun _ _ _ _ _ _ us hl => match us, hl with | [_, _, _], _ => rfl)
    rounds_at := mkDef X G a14 l14 c14 k14 (fun _ _ _ _ _ _ us hl => match us, hl with | [_, _, _, _], _ => rfl)
    rank_at := mkDef X G a15 l15 c15 k15 (fun _ _ _ _ _ _ us hl => match us, hl with | [_, _, _], _ => rfl)
    many_chosen := mkDef X G a16 l16 c16 k16 (fun _ _ _ _ _ _ us hl => match us, hl with | [_, _], _ => rfl)
    behind := mkDef X G a17 l17 c17 k17 (fun _ _ _ _ _ _ us hl => match us, hl with | [_, _, _], _ => rfl)
    chosen_at := mkDef X G a18 l18 c18 k18 (fun _ _ _ _ _ _ us hl => match us, hl with | [_, _, _], _ => rfl)
    chosen_rank := mkDef X G a19 l19 c19 k19 (fun _ _ _ _ _ _ us hl => match us, hl with | [_, _], _ => rfl)
    check_count := mkDef X G a20 l20 c20 k20 (fun _ _ _ _ _ _ us hl => match us, hl with | [_], _ => rfl)
    check_kinds := mkDef X G a21 l21 c21 k21 (fun _ _ _ _ _ _ us hl => match us, hl with | [_], _ => rfl)
    check_sizes := mkDef X G a22 l22 c22 k22 (fun _ _ _ _ _ _ us hl => match us, hl with | [_], _ => rfl)
    check_rank := mkDef X G a23 l23 c23 k23 (fun _ _ _ _ _ _ us hl => match us, hl with | [_, _, _, _], _ => rfl)
    check_rounds := mkDef X G a24 l24 c24 k24 (fun _ _ _ _ _ _ us hl => match us, hl with | [_, _, _], _ => rfl)
    are_rounds := mkDef X G a25 l25 c25 k25 (fun _ _ _ _ _ _ us hl => match us, hl with | [_, _, _], _ => rfl)
    is_chosen := mkDef X G a26 l26 c26 k26 (fun _ _ _ _ _ _ us hl => match us, hl with | [_, _], _ => rfl)
    is_ascending := mkDef X G a27 l27 c27 k27 (fun _ _ _ _ _ _ us hl => match us, hl with | [_], _ => rfl)
    are_between := mkDef X G a28 l28 c28 k28 (fun _ _ _ _ _ _ us hl => match us, hl with | [_, _, _], _ => rfl)
    law_cell := mkDef X G a29 l29 c29 k29 (fun _ _ _ _ _ _ us hl => match us, hl with | [_, _], _ => rfl)
    law_box := mkDef X G a30 l30 c30 k30 (fun _ _ _ _ _ _ us hl => match us, hl with | [_], _ => rfl)
    law_take := mkDef X G a31 l31 c31 k31 (fun _ _ _ _ _ _ us hl => match us, hl with | [_, _], _ => rfl)
    law_same := mkDef X G a32 l32 c32 k32 (fun _ _ _ _ _ _ us hl => match us, hl with | [_, _], _ => rfl)
    law_choose := mkDef X G a33 l33 c33 k33 (fun _ _ _ _ _ _ us hl => match us, hl with | [_, _], _ => rfl)
    law_many := mkDef X G a34 l34 c34 k34 (fun _ _ _ _ _ _ us hl => match us, hl with | [_, _, _], _ => rfl)
    law_is_between := mkDef X G a35 l35 c35 k35 (fun _ _ _ _ _ _ us hl => match us, hl with | [_, _, _], _ => rfl)
    law_are_kinds := mkDef X G a36 l36 c36 k36 (fun _ _ _ _ _ _ us hl => match us, hl with | [_], _ => rfl)
    law_are_sizes := mkDef X G a37 l37 c37 k37 (fun _ _ _ _ _ _ us hl => match us, hl with | [_], _ => rfl)
    law_are_rounds := mkDef X G a38 l38 c38 k38 (fun _ _ _ _ _ _ us hl => match us, hl with | [_, _, _], _ => rfl)
    law_refused := mkDef X G a39 l39 c39 k39 (fun _ _ _ _ _ _ us hl => match us, hl with | [_, _], _ => rfl)
    law_asked := mkDef X G a40 l40 c40 k40 (fun _ _ _ _ _ _ us hl => match us, hl with | [_, _, _], _ => rfl)
    law_told := mkDef X G a41 l41 c41 k41 (fun _ _ _ _ _ _ us hl => match us, hl with | [_, _, _], _ => rfl)
    law_right := mkDef X G a42 l42 c42 k42 (fun _ _ _ _ _ _ us hl => match us, hl with | [_, _, _], _ => rfl)
    law_kinds := mkDef X G a43 l43 c43 k43 (fun _ _ _ _ _ _ us hl => match us, hl with | [_, _], _ => rfl)
    law_sizes := mkDef X G a44 l44 c44 k44 (fun _ _ _ _ _ _ us hl => match us, hl with | [_, _, _], _ => rfl)
    law_drawn := mkDef X G a45 l45 c45 k45 (fun _ _ _ _ _ _ us hl => match us, hl with | [_, _, _, _], _ => rfl)
    law_odd := mkDef X G a46 l46 c46 k46 (fun _ _ _ _ _ _ us hl => match us, hl with | [_], _ => rfl)
    law_spoilt_list := mkDef X G a47 l47 c47 k47 (fun _ _ _ _ _ _ us hl => match us, hl with | [_, _, _, _], _ => rfl)
    law_spoilt_kinds := mkDef X G a48 l48 c48 k48 (fun _ _ _ _ _ _ us hl => match us, hl with | [_, _], _ => rfl)
    law_spoilt_sizes := mkDef X G a49 l49 c49 k49 (fun _ _ _ _ _ _ us hl => match us, hl with | [_, _], _ => rfl)
    law_spoilt_rounds := mkDef X G a50 l50 c50 k50 (fun _ _ _ _ _ _ us hl => match us, hl with | [_, _, _], _ => rfl)
    law_question := mkDef X G a51 l51 c51 k51 (fun _ _ _ _ _ _ us hl => match us, hl with | [_, _, _], _ => rfl)
    law := mkDef X G a52 l52 c52 k52 (fun _ _ _ _ _ _ us hl => match us, hl with | [_], _ => rfl)
    z_int := PySem.W.mg_none_of X G z_int
    z_bool := PySem.W.mg_none_of X G z_bool
    z_str := PySem.W.mg_none_of X G z_str
    z_list := PySem.W.mg_none_of X G z_list
    z_tuple := PySem.W.mg_none_of X G z_tuple
    z_len := PySem.W.mg_none_of X G z_len
    z_sum := PySem.W.mg_none_of X G z_sum
    z_abs := PySem.W.mg_none_of X G z_abs
    z_all := PySem.W.mg_none_of X G z_all
    z_range := PySem.W.mg_none_of X G z_range
    z_isinstance := PySem.W.mg_none_of X G z_isinstance
    z_enumerate := PySem.W.mg_none_of X G z_enumerate
    z_max := PySem.W.mg_none_of X G z_max
    z_min := PySem.W.mg_none_of X G z_min
    z_sorted := PySem.W.mg_none_of X G z_sorted
    t_MOST_KINDS := t_MOST_KINDS
    c_MOST_KINDS := PySem.W.mg_of X G c_MOST_KINDS
    t_LAST_KIND := t_LAST_KIND
    c_LAST_KIND := PySem.W.mg_of X G c_LAST_KIND
    t_ON_LETTERS := t_ON_LETTERS
    c_ON_LETTERS := PySem.W.mg_of X G c_ON_LETTERS
    t_ON_WIRES := t_ON_WIRES
    c_ON_WIRES := PySem.W.mg_of X G c_ON_WIRES
    c_comb := PySem.W.mg_of X G c_comb
    TalkError_C := CT
    TalkError_gC := PySem.W.mg_of X G aCT
    InvalidNumber := ⟨CInvalidNumber, fIInvalidNumber, _, fun_mk (st := s_init_InvalidNumber) lIInvalidNumber cIInvalidNumber kIInvalidNumber, (fun_mk (st := s_init_InvalidNumber) lIInvalidNumber cIInvalidNumber kIInvalidNumber).binds (ps := ["self", "given"]) fun _ _ _ _ _ _ us hl => match us, hl with | [_, _], _ => rfl, ⟨⟨_, _, _, _, _, _, _, _, _, _, _, _, _, _, _, xLInvalidNumber, rfl⟩, saInvalidNumber, eCInvalidNumber, tCInvalidNumber, kCInvalidNumber⟩, iCInvalidNumber, tIInvalidNumber, PySem.W.mg_of X G aCInvalidNumber, nbInvalidNumber, ⟨gaInvalidNumber, ggInvalidNumber, eCInvalidNumber, hCInvalidNumber⟩⟩
    InvalidKinds := ⟨CInvalidKinds, fIInvalidKinds, _, fun_mk (st := s_init_InvalidKinds) lIInvalidKinds cIInvalidKinds kIInvalidKinds, (fun_mk (st := s_init_InvalidKinds) lIInvalidKinds cIInvalidKinds kIInvalidKinds).binds (ps := ["self", "given"]) fun _ _ _ _ _ _ us hl => match us, hl with | [_, _], _ => rfl, ⟨⟨_, _, _, _, _, _, _, _, _, _, _, _, _, _, _, xLInvalidKinds, rfl⟩, saInvalidKinds, eCInvalidKinds, tCInvalidKinds, kCInvalidKinds⟩, iCInvalidKinds, tIInvalidKinds, PySem.W.mg_of X G aCInvalidKinds, nbInvalidKinds, ⟨gaInvalidKinds, ggInvalidKinds, eCInvalidKinds, hCInvalidKinds⟩⟩
    InvalidSizes := ⟨CInvalidSizes, fIInvalidSizes, _, fun_mk (st := s_init_InvalidSizes) lIInvalidSizes cIInvalidSizes kIInvalidSizes, (fun_mk (st := s_init_InvalidSizes) lIInvalidSizes cIInvalidSizes kIInvalidSizes).binds (ps := ["self", "given"]) fun _ _ _ _ _ _ us hl => match us, hl with | [_, _], _ => rfl, ⟨⟨_, _, _, _, _, _, _, _, _, _, _, _, _, _, _, xLInvalidSizes, rfl⟩, saInvalidSizes, eCInvalidSizes, tCInvalidSizes, kCInvalidSizes⟩, iCInvalidSizes, tIInvalidSizes, PySem.W.mg_of X G aCInvalidSizes, nbInvalidSizes, ⟨gaInvalidSizes, ggInvalidSizes, eCInvalidSizes, hCInvalidSizes⟩⟩
    InvalidRank := ⟨CInvalidRank, fIInvalidRank, _, fun_mk (st := s_init_InvalidRank) lIInvalidRank cIInvalidRank kIInvalidRank, (fun_mk (st := s_init_InvalidRank) lIInvalidRank cIInvalidRank kIInvalidRank).binds (ps := ["self", "given"]) fun _ _ _ _ _ _ us hl => match us, hl with | [_, _], _ => rfl, ⟨⟨_, _, _, _, _, _, _, _, _, _, _, _, _, _, _, xLInvalidRank, rfl⟩, saInvalidRank, eCInvalidRank, tCInvalidRank, kCInvalidRank⟩, iCInvalidRank, tIInvalidRank, PySem.W.mg_of X G aCInvalidRank, nbInvalidRank, ⟨gaInvalidRank, ggInvalidRank, eCInvalidRank, hCInvalidRank⟩⟩
    InvalidRounds := ⟨CInvalidRounds, fIInvalidRounds, _, fun_mk (st := s_init_InvalidRounds) lIInvalidRounds cIInvalidRounds kIInvalidRounds, (fun_mk (st := s_init_InvalidRounds) lIInvalidRounds cIInvalidRounds kIInvalidRounds).binds (ps := ["self", "given"]) fun _ _ _ _ _ _ us hl => match us, hl with | [_, _], _ => rfl, ⟨⟨_, _, _, _, _, _, _, _, _, _, _, _, _, _, _, xLInvalidRounds, rfl⟩, saInvalidRounds, eCInvalidRounds, tCInvalidRounds, kCInvalidRounds⟩, iCInvalidRounds, tIInvalidRounds, PySem.W.mg_of X G aCInvalidRounds, nbInvalidRounds, ⟨gaInvalidRounds, ggInvalidRounds, eCInvalidRounds, hCInvalidRounds⟩⟩
    eNN := exm_of eCInvalidNumber iSInvalidNumber tCInvalidNumber eNN
    eKN := exm_of eCInvalidNumber iSInvalidNumber tCInvalidNumber eKN
    eKK := exm_of eCInvalidKinds iSInvalidKinds tCInvalidKinds eKK
    eSN := exm_of eCInvalidNumber iSInvalidNumber tCInvalidNumber eSN
    eSK := exm_of eCInvalidKinds iSInvalidKinds tCInvalidKinds eSK
    eSS := exm_of eCInvalidSizes iSInvalidSizes tCInvalidSizes eSS
    eRN := exm_of eCInvalidNumber iSInvalidNumber tCInvalidNumber eRN
    eRK := exm_of eCInvalidKinds iSInvalidKinds tCInvalidKinds eRK
    eRS := exm_of eCInvalidSizes iSInvalidSizes tCInvalidSizes eRS
    eRR := exm_of eCInvalidRank iSInvalidRank tCInvalidRank eRR
    eON := exm_of eCInvalidNumber iSInvalidNumber tCInvalidNumber eON
    eOK := exm_of eCInvalidKinds iSInvalidKinds tCInvalidKinds eOK
    eOS := exm_of eCInvalidSizes iSInvalidSizes tCInvalidSizes eOS
    eOR := exm_of eCInvalidRank iSInvalidRank tCInvalidRank eOR
    eOO := exm_of eCInvalidRounds iSInvalidRounds tCInvalidRounds eOO
    kb_many_rounds_sizes_count := kb21 (fun_mk (st := s_many_rounds) l6 c6 k6) fun _ _ _ _ _ _ _ _ => rfl
    kb_rank_of_kinds_rounds := kb21 (fun_mk (st := s_rank_of) l8 c8 k8) fun _ _ _ _ _ _ _ _ => rfl
    kb_many_raised_sizes_count := kb21 (fun_mk (st := s_many_raised) l9 c9 k9) fun _ _ _ _ _ _ _ _ => rfl
    kb_raised_rank_wires_rounds := kb21 (fun_mk (st := s_raised_rank) l11 c11 k11) fun _ _ _ _ _ _ _ _ => rfl
    kb_answers_of_wires_rounds := kb21 (fun_mk (st := s_answers_of) l12 c12 k12) fun _ _ _ _ _ _ _ _ => rfl
    kb_rounds_of_sizes_kinds_rank := kb321 (fun_mk (st := s_rounds_of) l7 c7 k7) fun _ _ _ _ _ _ _ _ _ => rfl
    kb_raised_of_sizes_wires_rank := kb321 (fun_mk (st := s_raised_of) l10 c10 k10) fun _ _ _ _ _ _ _ _ _ => rfl }
  exact ⟨PySem.W.fnOf "law" "law" (defArgs s_law) (defBody s_law) (defScope s_law) .none kV52 dc52 pm52 an52 cd52 ct52, fun s v => .of_eq rfl, fun base _ _ => ok_law T⟩
theorem walk {l : PySem.W.OpenLaw} {q : Program} {loose : List Str} {XP : (Str → Option Value) → Heap → Prop} {YP : World → Heap → Prop} {d : DefRec} {K : Params → PySem.W.Frag} (hn : l.most = some 63) (hdf : d.params.defaults = [])
    (hY : ∀ (w : World) (h : Heap), YP w h → (K w.params).In h)
    (F : ∀ (w : World) (mg : Str → Option Value) (fa : Addr) (h : Heap), (K w.params).In h → h.Ns mainGlobals mg → mg d.name = some (.ref fa) →
      ∃ fd : FuncData, (∀ (s : Shared) (u : Value), BindsTo s fd ⟨[u], []⟩ [("script", u)]) ∧ ∀ base : Heap, (K w.params).In base → base.Ns mainGlobals mg → FnOk l.prog w (K w.params) mg base CX0 11 fa fd ["script"] (spLaw (K w.params))) :
    PySem.W.WalkO q loose XP YP l.row.toRowW d [] (fun f vs => PySem.call f vs) :=
  L2.walk_of (n := 63) (k := 11) (x := "script") (CX := fun _ => CX0) (sp := fun w => spLaw (K w.params)) hn (by decide) hdf ⟨rfl, by decide, by decide⟩ hY F
    (fun _ _ a ns hl _ hS => ⟨a, ns, rfl, hS, hl, fun _ => rfl⟩) fun _ _ _ _ _ z => z
end L2.U
open PySem PySem.W PyProof.Rows
set_option maxRecDepth 100000 in
set_option maxHeartbeats 0 in
theorem PySem.Challenge.cw_upforgood_k05_rounds_refused_holds : PySem.Challenge.rw_upforgood_k05_rounds_refused.Holds := by
  w_on; o_law; k_head; (case hw => w_witness2)
  k_fill
  refine L2.U.walk (l := PySem.Challenge.rw_upforgood_k05_rounds_refused) rfl rfl (fun w h Y => PySem.W.kIn_of Y) ?F
  case F =>
    intro w mg fa h KX G hmg
    refine' L2.U.all_mk KX G hmg ?a1 ?l1 ?c1 ?k1 ?a2 ?l2 ?c2 ?k2 ?a3 ?l3 ?c3 ?k3 ?a4 ?l4 ?c4 ?k4 ?a5 ?l5 ?c5 ?k5 ?a6 ?l6 ?c6 ?k6 ?a7 ?l7 ?c7 ?k7 ?a8 ?l8 ?c8 ?k8 ?a9 ?l9 ?c9 ?k9 ?a10 ?l10 ?c10 ?k10 ?a11 ?l11 ?c11 ?k11 ?a12 ?l12 ?c12 ?k12 ?a13 ?l13 ?c13 ?k13 ?a14 ?l14 ?c14 ?k14 ?a15 ?l15 ?c15 ?k15 ?a16 ?l16 ?c16 ?k16 ?a17 ?l17 ?c17 ?k17 ?a18 ?l18 ?c18 ?k18 ?a19 ?l19 ?c19 ?k19 ?a20 ?l20 ?c20 ?k20 ?a21 ?l21 ?c21 ?k21 ?a22 ?l22 ?c22 ?k22 ?a23 ?l23 ?c23 ?k23 ?a24 ?l24 ?c24 ?k24 ?a25 ?l25 ?c25 ?k25 ?a26 ?l26 ?c26 ?k26 ?a27 ?l27 ?c27 ?k27 ?a28 ?l28 ?c28 ?k28 ?a29 ?l29 ?c29 ?k29 ?a30 ?l30 ?c30 ?k30 ?a31 ?l31 ?c31 ?k31 ?a32 ?l32 ?c32 ?k32 ?a33 ?l33 ?c33 ?k33 ?a34 ?l34 ?c34 ?k34 ?a35 ?l35 ?c35 ?k35 ?a36 ?l36 ?c36 ?k36 ?a37 ?l37 ?c37 ?k37 ?a38 ?l38 ?c38 ?k38 ?a39 ?l39 ?c39 ?k39 ?a40 ?l40 ?c40 ?k40 ?a41 ?l41 ?c41 ?k41 ?a42 ?l42 ?c42 ?k42 ?a43 ?l43 ?c43 ?k43 ?a44 ?l44 ?c44 ?k44 ?a45 ?l45 ?c45 ?k45 ?a46 ?l46 ?c46 ?k46 ?a47 ?l47 ?c47 ?k47 ?a48 ?l48 ?c48 ?k48 ?a49 ?l49 ?c49 ?k49 ?a50 ?l50 ?c50 ?k50 ?a51 ?l51 ?c51 ?k51 ?a52 ?l52 ?c52 ?k52 ?z_int ?z_bool ?z_str ?z_list ?z_tuple ?z_len ?z_sum ?z_abs ?z_all ?z_range ?z_isinstance ?z_enumerate ?z_max ?z_min ?z_sorted ?c_MOST_KINDS ?c_LAST_KIND ?c_ON_LETTERS ?c_ON_WIRES ?c_comb ?aCT ?aCInvalidNumber ?xLInvalidNumber ?saInvalidNumber ?gaInvalidNumber ?ggInvalidNumber ?nbInvalidNumber ?iCInvalidNumber ?tIInvalidNumber ?lIInvalidNumber ?cIInvalidNumber ?kIInvalidNumber ?kCInvalidNumber ?eCInvalidNumber ?tCInvalidNumber ?hCInvalidNumber ?iSInvalidNumber ?aCInvalidKinds ?xLInvalidKinds ?saInvalidKinds ?gaInvalidKinds ?ggInvalidKinds ?nbInvalidKinds ?iCInvalidKinds ?tIInvalidKinds ?lIInvalidKinds ?cIInvalidKinds ?kIInvalidKinds ?kCInvalidKinds ?eCInvalidKinds ?tCInvalidKinds ?hCInvalidKinds ?iSInvalidKinds ?aCInvalidSizes ?xLInvalidSizes ?saInvalidSizes ?gaInvalidSizes ?ggInvalidSizes ?nbInvalidSizes ?iCInvalidSizes ?tIInvalidSizes ?lIInvalidSizes ?cIInvalidSizes ?kIInvalidSizes ?kCInvalidSizes ?eCInvalidSizes ?tCInvalidSizes ?hCInvalidSizes ?iSInvalidSizes ?aCInvalidRank ?xLInvalidRank ?saInvalidRank ?gaInvalidRank ?ggInvalidRank ?nbInvalidRank ?iCInvalidRank ?tIInvalidRank ?lIInvalidRank ?cIInvalidRank ?kIInvalidRank ?kCInvalidRank ?eCInvalidRank ?tCInvalidRank ?hCInvalidRank ?iSInvalidRank ?aCInvalidRounds ?xLInvalidRounds ?saInvalidRounds ?gaInvalidRounds ?ggInvalidRounds ?nbInvalidRounds ?iCInvalidRounds ?tIInvalidRounds ?lIInvalidRounds ?cIInvalidRounds ?kIInvalidRounds ?kCInvalidRounds ?eCInvalidRounds ?tCInvalidRounds ?hCInvalidRounds ?iSInvalidRounds ?eNN ?eKN ?eKK ?eSN ?eSK ?eSS ?eRN ?eRK ?eRS ?eRR ?eON ?eOK ?eOS ?eOR ?eOO
    (case a1 => k_is)
    (case l1 => k_is)
    (case c1 => k_is)
    (case k1 => k_is)
    (case a2 => k_is)
    (case l2 => k_is)
    (case c2 => k_is)
    (case k2 => k_is)
    (case a3 => k_is)
    (case l3 => k_is)
    (case c3 => k_is)
    (case k3 => k_is)
    (case a4 => k_is)
    (case l4 => k_is)
    (case c4 => k_is)
    (case k4 => k_is)
    (case a5 => k_is)
    (case l5 => k_is)
    (case c5 => k_is)
    (case k5 => k_is)
    (case a6 => k_is)
    (case l6 => k_is)
    (case c6 => k_is)
    (case k6 => k_is)
    (case a7 => k_is)
    (case l7 => k_is)
    (case c7 => k_is)
    (case k7 => k_is)
    (case a8 => k_is)
    (case l8 => k_is)
    (case c8 => k_is)
    (case k8 => k_is)
    (case a9 => k_is)
    (case l9 => k_is)
    (case c9 => k_is)
    (case k9 => k_is)
    (case a10 => k_is)
    (case l10 => k_is)
    (case c10 => k_is)
    (case k10 => k_is)
    (case a11 => k_is)
    (case l11 => k_is)
    (case c11 => k_is)
    (case k11 => k_is)
    (case a12 => k_is)
    (case l12 => k_is)
    (case c12 => k_is)
    (case k12 => k_is)
    (case a13 => k_is)
    (case l13 => k_is)
    (case c13 => k_is)
    (case k13 => k_is)
    (case a14 => k_is)
    (case l14 => k_is)
    (case c14 => k_is)
    (case k14 => k_is)
    (case a15 => k_is)
    (case l15 => k_is)
    (case c15 => k_is)
    (case k15 => k_is)
    (case a16 => k_is)
    (case l16 => k_is)
    (case c16 => k_is)
    (case k16 => k_is)
    (case a17 => k_is)
    (case l17 => k_is)
    (case c17 => k_is)
    (case k17 => k_is)
    (case a18 => k_is)
    (case l18 => k_is)
    (case c18 => k_is)
    (case k18 => k_is)
    (case a19 => k_is)
    (case l19 => k_is)
    (case c19 => k_is)
    (case k19 => k_is)
    (case a20 => k_is)
    (case l20 => k_is)
    (case c20 => k_is)
    (case k20 => k_is)
    (case a21 => k_is)
    (case l21 => k_is)
    (case c21 => k_is)
    (case k21 => k_is)
    (case a22 => k_is)
    (case l22 => k_is)
    (case c22 => k_is)
    (case k22 => k_is)
    (case a23 => k_is)
    (case l23 => k_is)
    (case c23 => k_is)
    (case k23 => k_is)
    (case a24 => k_is)
    (case l24 => k_is)
    (case c24 => k_is)
    (case k24 => k_is)
    (case a25 => k_is)
    (case l25 => k_is)
    (case c25 => k_is)
    (case k25 => k_is)
    (case a26 => k_is)
    (case l26 => k_is)
    (case c26 => k_is)
    (case k26 => k_is)
    (case a27 => k_is)
    (case l27 => k_is)
    (case c27 => k_is)
    (case k27 => k_is)
    (case a28 => k_is)
    (case l28 => k_is)
    (case c28 => k_is)
    (case k28 => k_is)
    (case a29 => k_is)
    (case l29 => k_is)
    (case c29 => k_is)
    (case k29 => k_is)
    (case a30 => k_is)
    (case l30 => k_is)
    (case c30 => k_is)
    (case k30 => k_is)
    (case a31 => k_is)
    (case l31 => k_is)
    (case c31 => k_is)
    (case k31 => k_is)
    (case a32 => k_is)
    (case l32 => k_is)
    (case c32 => k_is)
    (case k32 => k_is)
    (case a33 => k_is)
    (case l33 => k_is)
    (case c33 => k_is)
    (case k33 => k_is)
    (case a34 => k_is)
    (case l34 => k_is)
    (case c34 => k_is)
    (case k34 => k_is)
    (case a35 => k_is)
    (case l35 => k_is)
    (case c35 => k_is)
    (case k35 => k_is)
    (case a36 => k_is)
    (case l36 => k_is)
    (case c36 => k_is)
    (case k36 => k_is)
    (case a37 => k_is)
    (case l37 => k_is)
    (case c37 => k_is)
    (case k37 => k_is)
    (case a38 => k_is)
    (case l38 => k_is)
    (case c38 => k_is)
    (case k38 => k_is)
    (case a39 => k_is)
    (case l39 => k_is)
    (case c39 => k_is)
    (case k39 => k_is)
    (case a40 => k_is)
    (case l40 => k_is)
    (case c40 => k_is)
    (case k40 => k_is)
    (case a41 => k_is)
    (case l41 => k_is)
    (case c41 => k_is)
    (case k41 => k_is)
    (case a42 => k_is)
    (case l42 => k_is)
    (case c42 => k_is)
    (case k42 => k_is)
    (case a43 => k_is)
    (case l43 => k_is)
    (case c43 => k_is)
    (case k43 => k_is)
    (case a44 => k_is)
    (case l44 => k_is)
    (case c44 => k_is)
    (case k44 => k_is)
    (case a45 => k_is)
    (case l45 => k_is)
    (case c45 => k_is)
    (case k45 => k_is)
    (case a46 => k_is)
    (case l46 => k_is)
    (case c46 => k_is)
    (case k46 => k_is)
    (case a47 => k_is)
    (case l47 => k_is)
    (case c47 => k_is)
    (case k47 => k_is)
    (case a48 => k_is)
    (case l48 => k_is)
    (case c48 => k_is)
    (case k48 => k_is)
    (case a49 => k_is)
    (case l49 => k_is)
    (case c49 => k_is)
    (case k49 => k_is)
    (case a50 => k_is)
    (case l50 => k_is)
    (case c50 => k_is)
    (case k50 => k_is)
    (case a51 => k_is)
    (case l51 => k_is)
    (case c51 => k_is)
    (case k51 => k_is)
    (case a52 => k_is)
    (case l52 => k_is)
    (case c52 => k_is)
    (case k52 => k_is)
    (case z_int => k_is)
    (case z_bool => k_is)
    (case z_str => k_is)
    (case z_list => k_is)
    (case z_tuple => k_is)
    (case z_len => k_is)
    (case z_sum => k_is)
    (case z_abs => k_is)
    (case z_all => k_is)
    (case z_range => k_is)
    (case z_isinstance => k_is)
    (case z_enumerate => k_is)
    (case z_max => k_is)
    (case z_min => k_is)
    (case z_sorted => k_is)
    (case c_MOST_KINDS => k_is)
    (case c_LAST_KIND => k_is)
    (case c_ON_LETTERS => k_is)
    (case c_ON_WIRES => k_is)
    (case c_comb => k_is)
    (case aCT => k_is)
    (case aCInvalidNumber => k_is)
    (case xLInvalidNumber => k_is)
    (case saInvalidNumber => k_is)
    (case gaInvalidNumber => k_is)
    (case ggInvalidNumber => k_is)
    (case nbInvalidNumber => k_is)
    (case iCInvalidNumber => k_is)
    (case tIInvalidNumber => k_is)
    (case lIInvalidNumber => k_is)
    (case cIInvalidNumber => k_is)
    (case kIInvalidNumber => k_is)
    (case kCInvalidNumber => k_is)
    (case eCInvalidNumber => k_is)
    (case tCInvalidNumber => k_is)
    (case hCInvalidNumber => k_is)
    (case iSInvalidNumber => k_is)
    (case aCInvalidKinds => k_is)
    (case xLInvalidKinds => k_is)
    (case saInvalidKinds => k_is)
    (case gaInvalidKinds => k_is)
    (case ggInvalidKinds => k_is)
    (case nbInvalidKinds => k_is)
    (case iCInvalidKinds => k_is)
    (case tIInvalidKinds => k_is)
    (case lIInvalidKinds => k_is)
    (case cIInvalidKinds => k_is)
    (case kIInvalidKinds => k_is)
    (case kCInvalidKinds => k_is)
    (case eCInvalidKinds => k_is)
    (case tCInvalidKinds => k_is)
    (case hCInvalidKinds => k_is)
    (case iSInvalidKinds => k_is)
    (case aCInvalidSizes => k_is)
    (case xLInvalidSizes => k_is)
    (case saInvalidSizes => k_is)
    (case gaInvalidSizes => k_is)
    (case ggInvalidSizes => k_is)
    (case nbInvalidSizes => k_is)
    (case iCInvalidSizes => k_is)
    (case tIInvalidSizes => k_is)
    (case lIInvalidSizes => k_is)
    (case cIInvalidSizes => k_is)
    (case kIInvalidSizes => k_is)
    (case kCInvalidSizes => k_is)
    (case eCInvalidSizes => k_is)
    (case tCInvalidSizes => k_is)
    (case hCInvalidSizes => k_is)
    (case iSInvalidSizes => k_is)
    (case aCInvalidRank => k_is)
    (case xLInvalidRank => k_is)
    (case saInvalidRank => k_is)
    (case gaInvalidRank => k_is)
    (case ggInvalidRank => k_is)
    (case nbInvalidRank => k_is)
    (case iCInvalidRank => k_is)
    (case tIInvalidRank => k_is)
    (case lIInvalidRank => k_is)
    (case cIInvalidRank => k_is)
    (case kIInvalidRank => k_is)
    (case kCInvalidRank => k_is)
    (case eCInvalidRank => k_is)
    (case tCInvalidRank => k_is)
    (case hCInvalidRank => k_is)
    (case iSInvalidRank => k_is)
    (case aCInvalidRounds => k_is)
    (case xLInvalidRounds => k_is)
    (case saInvalidRounds => k_is)
    (case gaInvalidRounds => k_is)
    (case ggInvalidRounds => k_is)
    (case nbInvalidRounds => k_is)
    (case iCInvalidRounds => k_is)
    (case tIInvalidRounds => k_is)
    (case lIInvalidRounds => k_is)
    (case cIInvalidRounds => k_is)
    (case kIInvalidRounds => k_is)
    (case kCInvalidRounds => k_is)
    (case eCInvalidRounds => k_is)
    (case tCInvalidRounds => k_is)
    (case hCInvalidRounds => k_is)
    (case iSInvalidRounds => k_is)
    (case eNN => first | rfl | k_is)
    (case eKN => first | rfl | k_is)
    (case eKK => first | rfl | k_is)
    (case eSN => first | rfl | k_is)
    (case eSK => first | rfl | k_is)
    (case eSS => first | rfl | k_is)
    (case eRN => first | rfl | k_is)
    (case eRK => first | rfl | k_is)
    (case eRS => first | rfl | k_is)
    (case eRR => first | rfl | k_is)
    (case eON => first | rfl | k_is)
    (case eOK => first | rfl | k_is)
    (case eOS => first | rfl | k_is)
    (case eOR => first | rfl | k_is)
    (case eOO => first | rfl | k_is)

