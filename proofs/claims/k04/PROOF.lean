import PyProof.Rows.All
import Wide.All
import OpenK.AllK
import Wide.FinOn
import HandS.ForMost
import HandS.ForExc
import HandS.ExcInit
import HandS.ExcField
import HandS.TryMany
import HandS.IsInst
import HandS.Gcd
import HandS.Wide
import HandS.TupMul
import HandS.TupAny
import HandS.TupLe
import HandS.Deep
import HandS.Flow
import HandS.Defaults
import HandS.Evl
import HandS.More
import HandS.WordsDict
import KE.KMathGC
import KE.KTupSum
import HandS.Walk
import KE.GoesMore
import HandS.Style
import HandS.SortRule
import HandS.DictTup
import HandS.Conv
import PySem.Challenge.RW_upforgood_k04_raised_rounds_and_answers
set_option Elab.async false
set_option linter.all false
set_option maxRecDepth 100000
set_option maxHeartbeats 4000000
namespace L2.U
open PySem PySem.Spec PyProof.Rows Evl

/-! ## several except clauses, each with a name or without one -/
structure Clause where
  cls : Value
  slot : Option Nat
  rd : Addr → Value → Option Addr → TS
def afterC : Option Nat → Ends → Ends
  | none, D => D
  | some i, D => ⟨fun s h => D.nx (s.set i none) h, D.rt, fun s h => D.bk (s.set i none) h, fun s h => D.ct (s.set i none) h⟩
def holdC : Option Nat → Addr → St → St
  | none, _, s => s
  | some i, a, s => s.set i (some (.ref a))
def wishC (K : PySem.W.Frag) (Wo : WX) (D : Ends) : List Clause → WX
  | [] => Wo
  | c :: r => fun cls d s h => ∃ b, PySem.W.exmOne K cls c.cls = some b ∧
      (b = true → ∀ a, h a = none → c.rd a cls d (afterC c.slot D) (holdC c.slot a s) h) ∧ (b = false → wishC K Wo D r cls d s h)
abbrev SuiteOk (X : Cx) (body : List Stmt) (rd : Addr → Value → Option Addr → TS) : Prop :=
  ∀ (a : Addr) (o : Obj) (cls : Value) (d : Option Addr) (pn : List (Addr × Obj)), Zc cls d o → (∃ vs, o.data = .fields vs) → PSs (X.suite a ((a, o) :: pn)) body (rd a cls d)
inductive ClauseOk (X : Cx) : ExceptHandler → Clause → Prop
  | bare {x : Str} {c : Value} {rd} {b0 : Stmt} {su : List Stmt} {np p : Pos} (hc : Names X x c) (hs : SuiteOk X (b0 :: su) rd) :
      ClauseOk X (.ExceptHandler (some (.Name x np)) none (b0 :: su) p) ⟨c, none, rd⟩
  | named {x n : Str} {i : Nat} {c : Value} {rd} {b0 : Stmt} {su : List Stmt} {np p : Pos} (hN : X.N.Nodup) (hi : X.N[i]? = some n)
      (hl : X.env.kindOf n = some .local) (hc : Names X x c) (hs : SuiteOk X (b0 :: su) rd) :
      ClauseOk X (.ExceptHandler (some (.Name x np)) (some n) (b0 :: su) p) ⟨c, some i, rd⟩
inductive ClausesOk (X : Cx) : List ExceptHandler → List Clause → Prop
  | nil : ClausesOk X [] []
  | cons {h c hs cs} (a : ClauseOk X h c) (r : ClausesOk X hs cs) : ClausesOk X (h :: hs) (c :: cs)
section
variable {X : Cx} {body : List Stmt} {h0 : ExceptHandler} {hds : List ExceptHandler} {cs : List Clause} {pos : Pos} {tb : WX → TS} {Wo : WX}
theorem ps_tryC (hs : X.stack = X.env :: X.outer) (hf : X.env.frame = some X.env.locals) (tk : Takes X Wo)
    (hb : ∀ (W : WX) (pn : List (Addr × Obj)) (xe : Value → Shared → Prop), Takes (X.tr pn xe) W → PassesOwn (model X.prog X.w) X.A X.env xe → PSs (X.tr pn xe) body (tb W))
    (hh : ClausesOk X (h0 :: hds) cs) : PS X (.Try body (h0 :: hds) [] [] pos) (fun D s h => tb (wishC X.K Wo D cs) D s h) := by
  constructor
  intro pins s σ H D I h
  have ok := I.ok
  have frames : X.A.frames = some (X.env :: X.outer) := by rw [ok.frames, hs]
  refine wpAny_Try_except ?_
  let caught : Value → Shared → Prop := fun e s1 =>
    wpAny (model X.prog X.w) X.A (noteFrame e X.env) (fun _ s2 => wpAny (model X.prog X.w) X.A (setFlight e none)
      (fun _ s3 => wpAny (model X.prog X.w) X.A (handleBy e X.env (h0 :: hds)) (SP X pins D) X.xe s3) X.xe s2) X.xe s1
  have takesB : Takes (X.tr (X.pn ++ pins) caught) (wishC X.K Wo D cs) := by
    rintro u s' ⟨a, B, sI, pins', σ', H', cls, d, rfl, J0, nb, up, sky, na, os, ag, w⟩
    have J : Inv X pins σ' H' sI := J0.ofTry ok
    have sky1 : Sky B (X.env :: X.outer) a (Zc cls d) X.env.locals s'.heap := hs ▸ sky
    show wpAny _ X.A (noteFrame (.ref a) X.env) _ _ _
    refine Sky.land Zc.steady frames hf sky1 fun h3 fl up3 => ?_
    have J3 : Inv X pins σ' H' { s' with heap := h3 } := J.landed nb fl.1 (up.trans up3) os ag
    obtain ⟨o3, v3, g3, z3, d3⟩ := fl.there
    have out : a ∉ frs (X.env :: X.outer) := by
      intro hm
      obtain ⟨_, o', e', no⟩ := fl.2.2.1.mem hm
      rw [g3] at e'
      cases e'
      exact no _ d3
    have nL : a ≠ X.env.locals := by
      intro z
      exact out (List.mem_filterMap.mpr ⟨X.env, List.mem_cons_self, z ▸ hf⟩)
    have nF : a ∉ X.fs := by
      intro hm
      obtain ⟨e, he, q⟩ := List.mem_filterMap.mp hm
      exact out (List.mem_filterMap.mpr ⟨e, List.mem_cons_of_mem _ he, q⟩)
    have S3 := J3.suite g3 d3 na nL nF
    have ty : PySem.W.Looks (model X.prog X.w) h3 (typeOf (.ref a)) cls := fun A Q E t k q => wpAny_typeOf_ref (k _ _ g3) (by rw [z3.1]; exact q)
    have asked : ∀ {x : Str} {c : Value} {np : Pos} {Q E : Value → Shared → Prop}, Names X x c → Q c { s' with heap := h3 } →
        wpAny (model X.prog X.w) (X.A.mark (some (.ref a))) (eval (.Name x np) X.env) Q E { s' with heap := h3 } := by
      rintro x c np Q E ⟨hg, hd, hm | ⟨hm, hv, hn⟩⟩ q
      · exact ld_glob (X := X.suite a ((a, o3) :: (X.pn ++ pins))) S3 hg hm q hd
      · exact ld_blt (X := X.suite a ((a, o3) :: (X.pn ++ pins))) S3 hg hm hv q hn hd
    have run : ∀ {l : List ExceptHandler} {k : List Clause}, ClausesOk X l k → wishC X.K Wo D k cls d σ' H' →
        wpAny (model X.prog X.w) X.A (handleBy (.ref a) X.env l) (SP X pins D) X.xe { s' with heap := h3 } := by
      intro l k hk
      induction hk with
      | nil =>
        intro w
        refine wpAny_handleBy_nil ?_
        obtain ⟨_, _, _, oe, vs, T, oT, ts, he, _, hd, h1, _⟩ := id fl
        unfold PySem.passOn
        refine wpAny_bind (wpAny_field he hd h1 ?_)
        rw [if_neg (by simp : ¬ ((Value.ref T == Value.none) = true))]
        have up : wpAny (model X.prog X.w) X.A (setFlight (.ref a) X.env.frame)
            (fun _ t => wpAny (model X.prog X.w) X.A (throw (.ref a) : Sem Flow) (SP X pins D) X.xe t) X.xe { s' with heap := h3 } := by
          rw [hf]
          refine HandSPX.setFlight_upZ fl fun h4 hh4 up4 => wpAny_throw (tk _ _ ?_)
          refine ⟨a, B, sI, pins, σ', H', cls, d, rfl, J, nb, (up.trans up3).trans up4, .inr (.inr ?_), na, os, ag, w⟩
          rw [hs]
          exact hh4
        first
          | exact wpAny_bind (wpAny_pure (wpAny_bind up))
          | exact wpAny_bind up
      | @cons h1 c hs1 cs1 hc1 _ ih =>
        rintro ⟨b, mb, yes, no⟩
        have LM := PySem.W.exm_one (M := model X.prog X.w) J3.kIn ty mb
        cases hc1 with
        | @bare x c rd b0 su np p hc hsu =>
          refine wpAny_handleBy_cons (codeAny_handlers_test ?_) (by intro q; cases q)
          refine asked hc (LM.here ?_)
          cases b with
          | false => exact ih (no rfl)
          | true =>
            refine codeAny_handlers_suite (HandSPX.lands_againZ fl fun h4 fl4 up4 => ?_)
            have J4 : Inv X pins σ' H' { s' with heap := h4 } := J.landed nb fl4.1 ((up.trans up3).trans up4) os ag
            obtain ⟨o4, v4, g4, z4, d4⟩ := fl4.there
            refine wpAny_mono ((hsu a o4 cls d (X.pn ++ pins) z4 ⟨_, d4⟩).run [] _ _ H' _ (J4.suite g4 d4 na nL nF) (yes rfl a na)) ?_ (fun _ _ z => False.elim z)
            intro f s6 sp
            cases f with
            | ret u => obtain ⟨v6, σ6, H6, S6, r6, q6⟩ := sp; exact ⟨_, _, _, S6.unsuite ok, r6, q6⟩
            | next => obtain ⟨σ6, H6, S6, q6⟩ := sp; exact ⟨_, _, S6.unsuite ok, q6⟩
            | brk => obtain ⟨σ6, H6, S6, q6⟩ := sp; exact ⟨_, _, S6.unsuite ok, q6⟩
            | cont => obtain ⟨σ6, H6, S6, q6⟩ := sp; exact ⟨_, _, S6.unsuite ok, q6⟩
        | @named x n i c rd b0 su np p hN hi hl hc hsu =>
          refine wpAny_handleBy_cons (codeAny_handlers_test ?_) (by intro q; cases q)
          refine asked hc (LM.here ?_)
          cases b with
          | false => exact ih (no rfl)
          | true =>
            refine codeAny_handlers_suite_as (HandSPX.lands_againZ fl fun h4 fl4 up4 => ?_)
            have J4 : Inv X pins σ' H' { s' with heap := h4 } := J.landed nb fl4.1 ((up.trans up3).trans up4) os ag
            obtain ⟨o4, v4, g4, z4, d4⟩ := fl4.there
            refine store_ok (X := X.suite a ((a, o4) :: (X.pn ++ pins))) (v := .ref a) (J4.suite g4 d4 na nL nF) hN hi (.inl hl) rfl (fun s5 S5 => ?_) (.inr hl)
            refine wpAny_mono ((hsu a o4 cls d (X.pn ++ pins) z4 ⟨_, d4⟩).run [] s5 _ H' _ S5 (yes rfl a na)) ?_ (fun _ _ z => False.elim z)
            intro f s6 sp
            have gone : ∀ {σ6 : St} {H6 : Hp} {Q : Shared → Prop}, Inv (X.suite a ((a, o4) :: (X.pn ++ pins))) [] σ6 H6 s6 → (∀ t, Inv X pins (σ6.set i none) H6 t → Q t) →
                wpAny (model X.prog X.w) X.A (do bindName X.env n .none; unbindBehindTheSuite X.env n p) (fun _ t => Q t) X.xe s6 := fun S6 hq => gone_ok (S6.unsuite ok) hN hi hl hq
            cases f with
            | ret u => obtain ⟨v6, σ6, H6, S6, r6, q6⟩ := sp; exact gone S6 fun t J7 => ⟨_, _, _, J7, r6, q6⟩
            | next => obtain ⟨σ6, H6, S6, q6⟩ := sp; exact gone S6 fun t J7 => ⟨_, _, J7, q6⟩
            | brk => obtain ⟨σ6, H6, S6, q6⟩ := sp; exact gone S6 fun t J7 => ⟨_, _, J7, q6⟩
            | cont => obtain ⟨σ6, H6, S6, q6⟩ := sp; exact gone S6 fun t J7 => ⟨_, _, J7, q6⟩
    exact run hh w
  refine wpAny_mono ((hb (wishC X.K Wo D cs) (X.pn ++ pins) caught takesB PassesOwn.looking).run [] s σ H D (I.toTry _) h) ?_ (fun e s1 he => he)
  intro f s1 sp
  cases f with
  | ret u => obtain ⟨v, σ', H', J', r, q⟩ := sp; exact ⟨v, σ', H', J'.ofTry ok, r, q⟩
  | next => obtain ⟨σ', H', J', q⟩ := sp; exact wpAny_execs_nil ⟨σ', H', J'.ofTry ok, q⟩
  | brk => obtain ⟨σ', H', J', q⟩ := sp; exact ⟨σ', H', J'.ofTry ok, q⟩
  | cont => obtain ⟨σ', H', J', q⟩ := sp; exact ⟨σ', H', J'.ofTry ok, q⟩
end

/-! ## f(k = v, ..): keywords alone -/
def tCallKw (sp : Sp) (pm : List V → List V) (E : St → XK) (tk : TA) : TE := fun σ H Q => tk σ H fun zs H1 => sp (pm zs) H1 Q (E σ)
section
variable {X : Cx} {CX : CXT} {k : Nat} {f : Addr} {fd : FuncData} {ps ks : List Str} {sp : Sp} {E : St → XK} {x : Str} {p pos : Pos} {kws : List Keyword} {tk : TA}
  {g : List Value → List Value → List Value} {gV : List V → List V → List V}
theorem pe_callKw (F : FnOk X.prog X.w X.K X.mg X.base CX k f fd ps sp) (hr : Room k X.A) (hg : Gl X x) (hm : X.mg x = some (.ref f)) (hk : PySem.W.keepIn X.K (.ref f) = true)
    (hb : KBinds X.K fd ps ks g gV) (hx : ∀ σ, PassesAt CX X σ (E σ)) (hkw : PK X kws tk)
    (hall : (backToKw pos (keywordEach kws X.env)).all (·.1.isSome) = true := by rfl) (hks : (backToKw pos (keywordEach kws X.env)).filterMap (·.1) = ks := by rfl)
    (hdb : (x == ("__debug__" : Str)) = false := by decide)
    (hpl : ((backTo pos (starEach [] X.env)).any (·.1) || (backToKw pos (keywordEach kws X.env)).any (·.1.isNone)) = false := by rfl) :
    PE X (.Call (.Name x p) [] kws pos) (tCallKw sp (gV []) E tk) := by
  constructor
  intro pins s σ H Q I h
  refine wpAny_Call_Name_kw (ld_glob I hg hm ?_ hdb)
  refine PySem.W.callWith_KW0 (h₀ := X.base) I.ok.mod.kin hk hall (thn (hkw.run pos pins s σ H _ I h) ?_) hpl
  rintro ws s2 ⟨zs, H2, I2, rz, q2⟩
  refine ⟨I2.kIn, ?_⟩
  rw [hks]
  have r2 : Vals (gV [] zs) (g [] ws) := hb.rel .nil rz
  have hl : (g [] ws).length = ps.length := by rw [← r2.length]; exact F.len _ _ _ _ q2
  refine wpAny_call (codeAny_mono (F.run X.A X.stack s2 H2 ⟨[], ks.zip ws⟩ (g [] ws) (gV [] zs) Q (E σ) hr I2.env0 (hb.to s2 [] ws I2.kIn hl) r2 q2) ?_)
  intro r s' hq
  cases r with
  | error e => exact hx σ pins H2 s2 e s' I2 hq
  | ok fl => cases fl with
    | ret u => exact I2.after hq
    | next => exact False.elim hq
    | brk => exact False.elim hq
    | cont => exact False.elim hq
end

/-! ## math.comb, and tuple * int with few turns -/
section
variable {X : Cx}
def rComb : List V → Hp → VK → Prop := fun vs H Q => ∃ a b : Int, vs = [.int a, .int b] ∧ 0 ≤ a ∧ a ≤ 1000 ∧ 0 ≤ b ∧ b ≤ 1000 ∧ Q (.int (PySem.W.mcComb a b)) H
theorem cr_comb : CallR X (.builtin "math.comb") rComb := by
  intro pins s σ H vs us Q I r h
  obtain ⟨a, b, rfl, h1, h2, h3, h4, q⟩ := h
  obtain ⟨u1, u2, rfl, r1, r2⟩ := vals2 r
  obtain ⟨t, rfl⟩ := r1
  obtain ⟨u, rfl⟩ := r2
  exact PySem.W.mc_comb h1 h3 (by omega) (by omega) fun _ => ⟨.int _, H, I.tok _, ⟨_, rfl⟩, q⟩
end

/-! ## sum of a list or a tuple of ints; x *= y of great ints; a for over a list or a tuple -/
section
variable {X : Cx}
def rSumS (K : PySem.W.Frag) : List V → Hp → VK → Prop := fun vs H Q => ∃ (a : Addr) (ns : List Int), vs = [V.ref a] ∧ (SqL K H a (ns.map V.int) ∨ SqT K H a (ns.map V.int)) ∧ Q (.int ns.sum) H
theorem cr_sumS (hc : X.calm = true) : CallR X (.builtin "sum") (rSumS X.K) := by
  intro pins s σ H vs us Q I r h
  obtain ⟨a, ns, e, hs | hs, q⟩ := h
  · exact cr_sum hc pins s σ H vs us Q I r ⟨a, ns, e, hs, q⟩
  · subst e
    obtain ⟨its, rv, hl, _⟩ := I.tuple hs
    rw [Vals.ref1 r]
    have hi := rv.ints
    have hl2 : s.heap.IsTuple a its.toArray := hl
    obtain ⟨xs, ex⟩ := hi.allInts.items
    have hn : numsOf (intItems xs).toList = ns := by rw [← ex]; exact hi.numsOf
    rw [nums_intItems] at hn
    rw [ex] at hl2
    refine PySem.W.ktm_sumG (I.ok.hd hc) hl2 fun h' tk t' hk => ?_
    rw [preSum_eq, List.take_of_length_le (by simp), hn]
    exact ⟨.int _, H, I.kept hk, ⟨_, rfl⟩, q⟩
theorem ip_mulC : PIp X .Mult (fun x y H Q => ∃ i j, x = .int i ∧ y = .int j ∧ CMul i j ∧ Q (.int (i * j)) H) := by
  intro pins s σ H x y v u Q I r1 r2 h
  obtain ⟨i, j, rfl, rfl, hc, q⟩ := h
  obtain ⟨t, rfl⟩ := r1
  obtain ⟨t', rfl⟩ := r2
  exact imul_int ⟨.int _, H, I.tok _, ⟨_, rfl⟩, q⟩ hc.ok
def iSeq (K : PySem.W.Frag) (tl : TE) : TI := fun σ H R => iList K tl σ H R ∨ iTup K tl σ H R
theorem pi_seq {tg l : Expr} {tl : TE} (hl : PE X l tl) : PI X tg l (iSeq X.K tl) := by
  constructor
  intro pins s σ H R I h
  rcases h with h | h
  · exact (pi_list hl).run pins s σ H R I h
  · exact (pi_tup hl).run pins s σ H R I h
end

/-! ## how keywords bind -/
def kw1 {α : Type} : List α → List α → List α
  | [], [a] => [a]
  | _, _ => []
def kw12 {α : Type} : List α → List α → List α
  | [], [a, b] => [a, b]
  | _, _ => []
def kw21 {α : Type} : List α → List α → List α
  | [], [a, b] => [b, a]
  | _, _ => []
theorem kw1_rel {vs : List V} {us : List Value} {zs : List V} {ws : List Value} (r : Vals vs us) (t : Vals zs ws) : Vals (kw1 vs zs) (kw1 us ws) := by
  cases r with
  | cons _ _ => exact .nil
  | nil => cases t with
    | nil => exact .nil
    | cons a t => cases t with
      | nil => exact .cons a .nil
      | cons _ _ => exact .nil
theorem kw12_rel {vs : List V} {us : List Value} {zs : List V} {ws : List Value} (r : Vals vs us) (t : Vals zs ws) : Vals (kw12 vs zs) (kw12 us ws) := by
  cases r with
  | cons _ _ => exact .nil
  | nil => cases t with
    | nil => exact .nil
    | cons a t => cases t with
      | nil => exact .nil
      | cons b t => cases t with
        | nil => exact .cons a (.cons b .nil)
        | cons _ _ => exact .nil
theorem kw21_rel {vs : List V} {us : List Value} {zs : List V} {ws : List Value} (r : Vals vs us) (t : Vals zs ws) : Vals (kw21 vs zs) (kw21 us ws) := by
  cases r with
  | cons _ _ => exact .nil
  | nil => cases t with
    | nil => exact .nil
    | cons a t => cases t with
      | nil => exact .nil
      | cons b t => cases t with
        | nil => exact .cons b (.cons a .nil)
        | cons _ _ => exact .nil
theorem kb1 {K : PySem.W.Frag} {x qual : Str} {st : Stmt} {f : Addr} {fd : FuncData} {p k : Str} (F : Fun K x qual st f fd)
    (h : ∀ (kV doc pm : Value) (an : Option Addr) (cdv ct : Value) (u : Value), bindArgs (PySem.W.fnOf x qual (defArgs st) (defBody st) (defScope st) .none kV doc pm an cdv ct) ⟨[], [(k, u)]⟩ = pure [(p, u)]) : KBinds K fd [p] [k] kw1 kw1 := by
  obtain ⟨oc, od, kV, doc, pm, an, cdv, ct, osl, rfl, lk, hcd⟩ := F.ex
  refine ⟨fun s us ws _ hl => ?_, kw1_rel⟩
  match us, ws, hl with
  | [], [u], _ => exact .of_eq (h kV doc pm an cdv ct u)
theorem kb12 {K : PySem.W.Frag} {x qual : Str} {st : Stmt} {f : Addr} {fd : FuncData} {p q k l : Str} (F : Fun K x qual st f fd)
    (h : ∀ (kV doc pm : Value) (an : Option Addr) (cdv ct : Value) (u w : Value), bindArgs (PySem.W.fnOf x qual (defArgs st) (defBody st) (defScope st) .none kV doc pm an cdv ct) ⟨[], [(k, u), (l, w)]⟩ = pure [(p, u), (q, w)]) : KBinds K fd [p, q] [k, l] kw12 kw12 := by
  obtain ⟨oc, od, kV, doc, pm, an, cdv, ct, osl, rfl, lk, hcd⟩ := F.ex
  refine ⟨fun s us ws _ hl => ?_, kw12_rel⟩
  match us, ws, hl with
  | [], [u, w], _ => exact .of_eq (h kV doc pm an cdv ct u w)
theorem kb21 {K : PySem.W.Frag} {x qual : Str} {st : Stmt} {f : Addr} {fd : FuncData} {p q k l : Str} (F : Fun K x qual st f fd)
    (h : ∀ (kV doc pm : Value) (an : Option Addr) (cdv ct : Value) (u w : Value), bindArgs (PySem.W.fnOf x qual (defArgs st) (defBody st) (defScope st) .none kV doc pm an cdv ct) ⟨[], [(k, u), (l, w)]⟩ = pure [(p, w), (q, u)]) : KBinds K fd [p, q] [k, l] kw21 kw21 := by
  obtain ⟨oc, od, kV, doc, pm, an, cdv, ct, osl, rfl, lk, hcd⟩ := F.ex
  refine ⟨fun s us ws _ hl => ?_, kw21_rel⟩
  match us, ws, hl with
  | [], [u, w], _ => exact .of_eq (h kV doc pm an cdv ct u w)

/-! ## tuple * int -/
theorem tmul0 (l : Addr) (items : Array Value) (n : Nat) (dd : Option Addr) (sl : Array (Option Value)) (u : Tok) (hne : items.isEmpty = false) :
    Meets (Builtin.«tuple.__mul__» ⟨[.ref l, .int 0 u], []⟩) (fun _ R s => s.heap.get? l = some { cls := .type "tuple", dict := dd, data := .seq items n, slots := sl } ∧
      R (.ok (.ret (Value.ref s.heap.objs.size))) { s with heap := s.heap.push { cls := Value.type "tuple", data := Data.seq #[] } }) :=
  .of_wp fun prog w A R s h => by
    obtain ⟨hp, g, d, tk, os⟩ := s
    obtain ⟨hl, h⟩ := h
    have f1 := AutoSeq1.idx_int
    have c1 : (items.isEmpty || (0 : Int) == 1) = false := by rw [hne]; rfl
    wp_walk using wpAny_loadPart' hl
    exact ⟨_, rfl, h⟩
theorem tmul1 (l : Addr) (items : Array Value) (n : Nat) (dd : Option Addr) (sl : Array (Option Value)) (u : Tok) (hne : items.isEmpty = false) :
    Meets (Builtin.«tuple.__mul__» ⟨[.ref l, .int 1 u], []⟩) (fun _ R s => s.heap.get? l = some { cls := .type "tuple", dict := dd, data := .seq items n, slots := sl } ∧
      R (.ok (.ret (Value.ref l))) s) :=
  .of_wp fun prog w A R s h => by
    obtain ⟨hp, g, d, tk, os⟩ := s
    obtain ⟨hl, h⟩ := h
    have f1 := AutoSeq1.idx_int
    wp_walk using wpAny_loadPart' hl
    exact ⟨_, rfl, h⟩

def rRepA (K : PySem.W.Frag) : R2 := fun x y H Q => ∃ (l : Addr) (k : Int) (xs : List V), x = .ref l ∧ y = .int k ∧ SqT K H l xs ∧ xs ≠ [] ∧ 0 ≤ k ∧ k ≤ 1000 ∧ xs.length ≤ 1000 ∧
  ∀ p H', Ex H H' → SqT K H' p (List.replicate k.toNat xs).flatten → Q (.ref p) H'
theorem op_repA {X : Cx} : OpR X (binaryOp .Mult) (rRepA X.K) := by
  intro pins s σ H x y v u Q I rx ry h
  obtain ⟨l, k, xs, rfl, rfl, hT, hne, h0, h1, hz, q⟩ := h
  by_cases h2 : 2 ≤ k
  · exact op_repT pins s σ H (.ref l) (.int k) v u Q I rx ry ⟨l, k, xs, rfl, rfl, hT, hne, h2, h1, hz, fun p hp => q p _ (Ex.new hp) (st_of upd_same)⟩
  · cases rx
    obtain ⟨t, rfl⟩ := ry
    obtain ⟨its, r, ⟨⟨cls, dd, data, sl⟩, ho, hc, n, hd⟩, hs⟩ := I.tuple hT
    simp only at hc hd
    subst hc hd
    have hle : its.length = xs.length := r.length.symm
    have hi : its.toArray.isEmpty = false := by
      cases its with
      | nil => exact absurd (List.eq_nil_of_length_eq_zero hle.symm) hne
      | cons a b => rfl
    rcases (by omega : k = 0 ∨ k = 1) with rfl | rfl
    · refine wpAny_binaryOp_repeat_ref (T := "tuple") (U := "int") (by decide) ⟨_, ho, rfl⟩ (fun s' => typeIs_int s' 0 t) noFill_tuple_mul F.fills_int_mul F.slot_int_rmul repeat_tuple F.slot_int_index.lookup
        (call_meets F.slot_int_rmul (typeIs_int s 0 t) F.entry_int_rmul (F.args_int_rmul_2 _ _) (int_rmul_tuple 0 t l its.toArray n dd sl)
          ⟨ho, rfl, ⟨_, ho, rfl⟩, call_meets F.slot_tuple_mul ⟨_, ho, rfl⟩ F.entry_tuple_mul (F.args_tuple_mul_2 _ _) (tmul0 l its.toArray n dd sl t hi) ⟨ho, ?_⟩⟩)
      refine ⟨.ref s.heap.objs.size, _, I.laid (t' := s.toks) (o := .tup []) (fun b ob e => Heap.get?_push_of_some _ e) (Nat.le_refl _) ?_, rfl, q _ _ (Ex.new (I.hok.fresh (Nat.le_refl _))) (st_of upd_same)⟩
      exact ⟨Nat.zero_le _, [], .nil, IsTup.new _ _⟩
    · refine wpAny_binaryOp_repeat_ref (T := "tuple") (U := "int") (by decide) ⟨_, ho, rfl⟩ (fun s' => typeIs_int s' 1 t) noFill_tuple_mul F.fills_int_mul F.slot_int_rmul repeat_tuple F.slot_int_index.lookup
        (call_meets F.slot_int_rmul (typeIs_int s 1 t) F.entry_int_rmul (F.args_int_rmul_2 _ _) (int_rmul_tuple 1 t l its.toArray n dd sl)
          ⟨ho, rfl, ⟨_, ho, rfl⟩, call_meets F.slot_tuple_mul ⟨_, ho, rfl⟩ F.entry_tuple_mul (F.args_tuple_mul_2 _ _) (tmul1 l its.toArray n dd sl t hi) ⟨ho, ?_⟩⟩)
      refine ⟨.ref l, H, I, rfl, q _ _ (Ex.refl H) ?_⟩
      have e : (List.replicate (Int.toNat 1) xs).flatten = xs := by simp
      rw [e]
      exact hT

/-! ## a def of the text, in one bundle -/
structure DefAt (K : PySem.W.Frag) (mg : Str → Option Value) (x : Str) (st : Stmt) (ps : List Str) where
  a : Addr
  fd : FuncData
  F : Fun K x x st a fd
  m : mg x = some (.ref a)
  b : Binds K fd ps []
theorem pass0At {X : Cx} {σ : St} : PassesAt CX0 X σ E0 := fun _ _ _ _ _ _ h => h.elim

/-! ## heaps: all but one object stands -/
def But (b : Addr) (H H' : Hp) : Prop := ∀ a o, a ≠ b → H a = some o → H' a = some o
theorem But.of {b : Addr} {H H' : Hp} (e : Ex H H') : But b H H' := fun a o _ h => e a o h
theorem But.trans {b : Addr} {H H1 H2 : Hp} (x : But b H H1) (y : But b H1 H2) : But b H H2 := fun a o n h => y a o n (x a o n h)
theorem But.ex {b : Addr} {H H1 H2 : Hp} (x : But b H H1) (y : Ex H1 H2) : But b H H2 := fun a o n h => y a o (x a o n h)
theorem But.pre {b : Addr} {H H1 H2 : Hp} (x : Ex H H1) (y : But b H1 H2) : But b H H2 := fun a o n h => y a o n (x a o h)
theorem But.upd {b : Addr} {H : Hp} {o : HO} : But b H (upd H b o) := fun a u n h => by rw [upd_ne n]; exact h
theorem But.none {b p : Addr} {H H' : Hp} {o : HO} (x : But b H H') (hb : H b = some o) (h : H' p = none) : p ≠ b → H p = none := fun n => by
  cases e : H p with
  | none => rfl
  | some u => rw [x p u n e] at h; cases h
theorem ne_new {H : Hp} {p b : Addr} {o : HO} (h : H p = none) (hb : H b = some o) : p ≠ b := fun e => by rw [e, hb] at h; cases h
/-- what is frozen or written stands whatever happens to b; a tracked list that is no b, too -/
theorem But.sql {K : PySem.W.Frag} {b a : Addr} {H H' : Hp} {xs : List V} (x : But b H H') (n : a ≠ b) (h : SqL K H a xs) : SqL K H' a xs := by
  rcases h with (h | ⟨o, h⟩) | h
  · exact .inl (.inl (x _ _ n h))
  · exact .inl (.inr ⟨o, x _ _ n h⟩)
  · exact .inr h
theorem But.sqt {K : PySem.W.Frag} {b a : Addr} {H H' : Hp} {xs : List V} (x : But b H H') (n : a ≠ b) (h : SqT K H a xs) : SqT K H' a xs := by
  rcases h with (h | ⟨o, h⟩) | h
  · exact .inl (.inl (x _ _ n h))
  · exact .inl (.inr ⟨o, x _ _ n h⟩)
  · exact .inr h

/-! ## the box of draws: digits, flag, seed, count; n draws are left -/
def BoxAt (H : Hp) (b : Addr) (n : Nat) : Prop := ∃ (d m c : Int) (f : Bool), H b = some (.lst [.int d, .bl f, .int m, .int c]) ∧ 0 ≤ d ∧ 0 ≤ m ∧ m < 2147483648 ∧ 0 ≤ c ∧ c + n ≤ 1000000
theorem BoxAt.some {H : Hp} {b : Addr} {n : Nat} (h : BoxAt H b n) : ∃ o, H b = some o := by
  obtain ⟨d, m, c, f, h, _⟩ := h
  exact ⟨_, h⟩
theorem BoxAt.le {H : Hp} {b : Addr} {n k : Nat} (h : BoxAt H b n) (l : k ≤ n) : BoxAt H b k := by
  obtain ⟨d, m, c, f, h, h1, h2, h3, h4, h5⟩ := h
  exact ⟨d, m, c, f, h, h1, h2, h3, h4, by omega⟩
theorem BoxAt.ex {H H' : Hp} {b : Addr} {n : Nat} (h : BoxAt H b n) (e : Ex H H') : BoxAt H' b n := by
  obtain ⟨d, m, c, f, h, r⟩ := h
  exact ⟨d, m, c, f, e _ _ h, r⟩
theorem BoxAt.ne {H : Hp} {b p : Addr} {n : Nat} (h : BoxAt H b n) (hp : H p = none) : p ≠ b := by
  obtain ⟨d, m, c, f, h, _⟩ := h
  exact ne_new hp h
def spCell (K : PySem.W.Frag) : Sp := fun vs H Q _ => ∃ (a : Addr) (ns : List Int) (k : Int), vs = [.ref a, .int k] ∧ SqL K H a (ns.map V.int) ∧ 0 ≤ k ∧ k ≤ 1000 ∧ ∀ (v : Int) H', Ex H H' → Q (.int v) H'
def spBox : Sp := fun vs H Q _ => ∃ g : Int, vs = [.int g] ∧ ∀ p H', H p = none → Ex H H' → BoxAt H' p 1000000 → Q (.ref p) H'
def spTake : Sp := fun vs H Q _ => ∃ (b : Addr) (m : Int) (n : Nat), vs = [.ref b, .int m] ∧ 0 < m ∧ m < 1073741824 ∧ BoxAt H b (n + 1) ∧
  ∀ r H', 0 ≤ r → r < m → BoxAt H' b n → But b H H' → Q (.int r) H'

/-! ## types of data -/
theorem tyL {K : PySem.W.Frag} {H : Hp} {a : Addr} {xs : List V} (h : SqL K H a xs) : TyX K H (.ref a) (.type "list") := by
  rcases h with (h | ⟨o, h⟩) | ⟨o, its, n, hk, hc, _⟩
  · exact .base (.lst h)
  · exact .base (.frz h)
  · exact .kList hk hc
theorem tyT {K : PySem.W.Frag} {H : Hp} {a : Addr} {xs : List V} (h : SqT K H a xs) : TyX K H (.ref a) (.type "tuple") := by
  rcases h with (h | ⟨o, h⟩) | ⟨o, its, n, hk, hc, _⟩
  · exact .base (.tup h)
  · exact .fTuple h
  · exact .kTuple hk hc
/-- two values that hold the same, at most n lists and tuples within one another -/
inductive Sm (K : PySem.W.Frag) (H : Hp) : Nat → V → V → Prop
  | non {n} : Sm K H n .non .non
  | bl {n} (b : Bool) : Sm K H n (.bl b) (.bl b)
  | int {n} (i : Int) : Sm K H n (.int i) (.int i)
  | str {n} (z : Str) (h : z.length ≤ 1000) : Sm K H n (.str z) (.str z)
  | lst {n} {a b : Addr} {xs ys : List V} (h1 : SqL K H a xs) (h2 : SqL K H b ys) (hl : xs.length = ys.length) (hz : xs.length ≤ 1000)
      (all : ∀ (i : Nat) (x y : V), xs[i]? = some x → ys[i]? = some y → Sm K H n x y) : Sm K H (n + 1) (.ref a) (.ref b)
  | tup {n} {a b : Addr} {xs ys : List V} (h1 : SqT K H a xs) (h2 : SqT K H b ys) (hl : xs.length = ys.length) (hz : xs.length ≤ 1000)
      (all : ∀ (i : Nat) (x y : V), xs[i]? = some x → ys[i]? = some y → Sm K H n x y) : Sm K H (n + 1) (.ref a) (.ref b)
  | dct {n} {a b : Addr} (h1 : H a = some (.dK [])) (h2 : H b = some (.dK [])) : Sm K H (n + 1) (.ref a) (.ref b)
theorem Sm.ex {K : PySem.W.Frag} {H H' : Hp} (e : Ex H H') {n : Nat} {x y : V} (h : Sm K H n x y) : Sm K H' n x y := by
  induction h with
  | non => exact .non
  | bl b => exact .bl b
  | int i => exact .int i
  | str z h => exact .str z h
  | lst h1 h2 hl hz _ ih => exact .lst (ex_l e h1) (ex_l e h2) hl hz ih
  | tup h1 h2 hl hz _ ih => exact .tup (ex_t e h1) (ex_t e h2) hl hz ih
  | dct h1 h2 => exact .dct (e _ _ h1) (e _ _ h2)
theorem Sm.succ {K : PySem.W.Frag} {H : Hp} {n : Nat} {x y : V} (h : Sm K H n x y) : Sm K H (n + 1) x y := by
  induction h with
  | non => exact .non
  | bl b => exact .bl b
  | int i => exact .int i
  | str z h => exact .str z h
  | lst h1 h2 hl hz _ ih => exact .lst h1 h2 hl hz ih
  | tup h1 h2 hl hz _ ih => exact .tup h1 h2 hl hz ih
  | dct h1 h2 => exact .dct h1 h2
theorem Sm.le {K : PySem.W.Frag} {H : Hp} {n m : Nat} {x y : V} (h : Sm K H n x y) (l : n ≤ m) : Sm K H m x y := by
  induction l with
  | refl => exact h
  | step _ ih => exact ih.succ
theorem Sm.ints {K : PySem.W.Frag} {H : Hp} {n : Nat} {ns : List Int} : ∀ (i : Nat) (x y : V), (ns.map V.int)[i]? = some x → (ns.map V.int)[i]? = some y → Sm K H n x y := by
  intro i x y h1 h2
  rw [h1] at h2
  cases h2
  rw [List.getElem?_map] at h1
  cases e : ns[i]? with
  | none => rw [e] at h1; cases h1
  | some z => rw [e] at h1; cases h1; exact .int z
def spSame (K : PySem.W.Frag) (n : Nat) : Sp := fun vs H Q _ => ∃ x y, vs = [x, y] ∧ Sm K H n x y ∧ ∀ H', Ex H H' → Q (.bl true) H'
theorem cut_one {z : Str} {k : Nat} {c : Nat} (h : z.cps.toList[k]? = some c) : cutS z (some (k : Int)) (some ((k : Int) + 1)) = ⟨#[c]⟩ := by
  have hk := (List.getElem?_eq_some_iff.mp h).1
  have hz : z.cps.toList.length = z.length := Array.length_toList
  unfold cutS
  have e : ((k : Int) + 1) = ((k + 1 : Nat) : Int) := by omega
  rw [e, HT.sIx_nat, HT.sIx_nat, Nat.min_eq_left (by omega), Nat.min_eq_left (by omega)]
  have e2 : k + 1 - k = 1 := by omega
  rw [e2, List.drop_eq_getElem_cons hk]
  have e3 := (List.getElem?_eq_some_iff.mp h).2
  simp [e3]

/-! ## the rules whose reading speaks of the written part, with it named (within a comprehension's block) -/
section
variable {X : Cx}
def rLen (K : PySem.W.Frag) : List V → Hp → VK → Prop := fun xs H Q => ∃ x n, xs = [x] ∧ LenV K x H n ∧ Q (.int (n : Nat)) H
def rListOf (K : PySem.W.Frag) : List V → Hp → VK → Prop := fun xs H Q => ∃ p ys, xs = [.ref p] ∧ (SqL K H p ys ∨ SqT K H p ys) ∧ ∀ l, H l = none → Q (.ref l) (upd H l (.lst ys))
def rTupOf (K : PySem.W.Frag) : List V → Hp → VK → Prop := fun xs H Q => ∃ p ys, xs = [.ref p] ∧ ((SqL K H p ys ∧ ∀ l, H l = none → Q (.ref l) (upd H l (.tup ys))) ∨ (SqT K H p ys ∧ Q (.ref p) H))
theorem kix (K : PySem.W.Frag) (h : X.K = K := by rfl) : IxR X (rIx K) := by subst h; exact ix_seq
theorem kixl (K : PySem.W.Frag) (h : X.K = K := by rfl) : IxR X (rIxL K) := by subst h; exact ix_list
theorem kixt (K : PySem.W.Frag) (h : X.K = K := by rfl) : IxR X (rIxT K) := by subst h; exact ix_tup
theorem klen (K : PySem.W.Frag) (h : X.K = K := by rfl) : CallR X (.builtin "len") (rLen K) := by subst h; exact call_len
theorem klist (K : PySem.W.Frag) (h : X.K = K := by rfl) : CallR X (.type "list") (rListOf K) := by subst h; exact call_list_of
theorem ktuple (K : PySem.W.Frag) (h : X.K = K := by rfl) : CallR X (.type "tuple") (rTupOf K) := by subst h; exact call_tuple_of
theorem kisi (K : PySem.W.Frag) (h : X.K = K := by rfl) : CallR X (.builtin "isinstance") (rIsi K) := by subst h; exact call_isi
theorem kisiT (K : PySem.W.Frag) (h : X.K = K := by rfl) : CallR X (.builtin "isinstance") (rIsiT K) := by subst h; exact call_isiT
theorem keqD (K : PySem.W.Frag) (hu : X.A.units + 64 < cLine) (h : X.K = K := by rfl) : OpR X (compareOp .Eq) (rEqD K) := by subst h; exact op_eqD hu
theorem kneD (K : PySem.W.Frag) (hu : X.A.units + 64 < cLine) (h : X.K = K := by rfl) : OpR X (compareOp .NotEq) (rNeD K) := by subst h; exact op_neD hu
theorem kin (K : PySem.W.Frag) (h : X.K = K := by rfl) : OpR X (compareOp .In) (rIn K false) := by subst h; exact op_in_seq
theorem knotin (K : PySem.W.Frag) (h : X.K = K := by rfl) : OpR X (compareOp .NotIn) (rIn K true) := by subst h; exact op_notIn_seq
theorem kcatA (K : PySem.W.Frag) (h : X.K = K := by rfl) : OpR X (binaryOp .Add) (rCatA K) := by subst h; exact op_catA
theorem krepA (K : PySem.W.Frag) (h : X.K = K := by rfl) : OpR X (binaryOp .Mult) (rRepA K) := by subst h; exact op_repA
theorem kslL (K : PySem.W.Frag) (h : X.K = K := by rfl) : SlR X (rSlL K) := by subst h; exact sl_list
theorem kslT (K : PySem.W.Frag) (h : X.K = K := by rfl) : SlR X (rSlA K) := by subst h; exact sl_tupA
theorem ksum (K : PySem.W.Frag) (hc : X.calm = true) (h : X.K = K := by rfl) : CallR X (.builtin "sum") (rSumS K) := by subst h; exact cr_sumS hc
theorem kall (K : PySem.W.Frag) (hc : X.calm = true) (h : X.K = K := by rfl) : CallR X (.builtin "all") (rAll K) := by subst h; exact cr_all hc
theorem kpil (K : PySem.W.Frag) {tg l : Expr} {tl : TE} (hl : PE X l tl) (h : X.K = K := by rfl) : PI X tg l (iList K tl) := by subst h; exact pi_list hl
theorem kpit (K : PySem.W.Frag) {tg l : Expr} {tl : TE} (hl : PE X l tl) (h : X.K = K := by rfl) : PI X tg l (iTup K tl) := by subst h; exact pi_tup hl
theorem kpis (K : PySem.W.Frag) {tg l : Expr} {tl : TE} (hl : PE X l tl) (h : X.K = K := by rfl) : PI X tg l (iSeq K tl) := by subst h; exact pi_seq hl
end

/-! ## own errors with one attribute -/
structure ErrAt (K : PySem.W.Frag) (mg : Str → Option Value) (x qi : Str) (st : Stmt) (f : Str) where
  C : Addr
  fI : Addr
  fd : FuncData
  F : Fun K "__init__" qi st fI fd
  b : Binds K fd ["self", f] []
  T : OexC K C
  iC : PySem.W.findIn K (.ref C) "__init__" = some (some (.ref fI))
  tI : PySem.W.typeIn K (.ref fI) = some (.type "function")
  gC : mg x = some (.ref C)
  nf : PySem.W.findIn K (.ref C) f = some none
  xf : XfC K C
def spInit (C : Addr) (f : Str) : Sp := fun vs H Q _ => ∃ (a : Addr) (y : V), vs = [.ref a, y] ∧ H a = some (exo a C none) ∧
  ∀ d, H d = none → d ≠ a → Q .non (upd (upd H d (exd d [(f, y)])) a (exo a C (some d)))
theorem raised {C a : Addr} {H : Hp} {f : Str} {y : V} {Q : XK} {E : XK} (ha : H a = none) (q : ∀ d H', Ex H H' → H' d = some (.xd [(f, y)]) → Q (.ref C) (some d) H') :
    spInit C f [.ref a, y] (upd H a (exo a C none)) (fun v H2 => v = .non ∧ ∃ (d : Addr) (fs : List (Str × V)), H2 a = some (exo a C (some d)) ∧ H2 d = some (exd d fs) ∧ H d = none ∧ Q (.ref C) (some d) (upd (del H2 a) d (.xd fs))) E := by
  refine ⟨a, y, rfl, upd_same, fun d hd nd => ⟨rfl, d, [(f, y)], upd_same, ?_, ?_, ?_⟩⟩
  · rw [upd_ne nd]; exact upd_same
  · rw [upd_ne nd] at hd; exact hd
  · rw [upd_ne nd] at hd
    refine q d _ (fun b o hb => ?_) upd_same
    have h1 : b ≠ a := ne_of_none hb ha
    have h2 : b ≠ d := ne_of_none hb hd
    rw [upd_ne h2, del_ne h1, upd_ne h1, upd_ne h2, upd_ne h1]
    exact hb
/-- a check: it lets what is right, else raises the error of C with the very value -/
def spChk (C : Addr) (ok : Int → Prop) : Sp := fun vs H Q E => ∃ i : Int, vs = [.int i] ∧ (ok i → ∀ H', Ex H H' → Q .non H') ∧
  (¬ ok i → ∀ d H', Ex H H' → H' d = some (.xd [("given", .int i)]) → E (.ref C) (some d) H')
end L2.U


set_option Elab.async false
set_option linter.all false
set_option maxRecDepth 100000
set_option maxHeartbeats 4000000
namespace L2.U
open PySem PySem.Spec PyProof.Rows Evl
open Sem (wp)
open AutoSeq1 (wpAny_loadPart')
/-! ### enumerate(tuple), and enumerate of a list or a tuple -/
theorem meets_enumT (l : Addr) (items : Array Value) (n : Nat) (dct : Option Addr) (sl : Array (Option Value)) :
    Meets (Builtin.«enumerate.__new__» ⟨[.type "enumerate", .ref l], []⟩) (fun _ R s => s.heap.get? l = some { cls := .type "tuple", dict := dct, data := .seq items n, slots := sl } ∧
      R (.ok (.ret (.ref (s.heap.push { cls := .type "tuple_iterator", data := .fields #[.ref l, .int 0 0] }).objs.size)))
        { s with heap := (s.heap.push { cls := .type "tuple_iterator", data := .fields #[.ref l, .int 0 0] }).push { cls := .type "enumerate", data := .fields #[.none, .bool false, .ref s.heap.objs.size, rawInt 0, .none, .none] } }) :=
  .of_wp fun prog w A R s h => by
    obtain ⟨hp, g, d, tk, os⟩ := s
    obtain ⟨hl, h⟩ := h
    have hsub := sub_enumerate
    have hL : Heap.IsTuple (Shared.heap ⟨hp, g, d, tk, os⟩) l items := ⟨_, hl, rfl, n, rfl⟩
    wp_walk using wpAny_loadPart' hl
    refine wpAny_stack_any fun st => wpAny_pure ?_
    split
    · rename_i c _ _ _ _ _
      cases (c == Value.type "enumerate")
      · wp_walk using wpAny_loadPart' hl, wpAny_pyIter_tuple hL
        exact ⟨_, rfl, h⟩
      · wp_walk using wpAny_loadPart' hl, wpAny_pyIter_tuple hL
        exact ⟨_, rfl, h⟩
    · wp_walk using wpAny_loadPart' hl, wpAny_pyIter_tuple hL
      exact ⟨_, rfl, h⟩
theorem call_enumT {prog : Program} {w : World} {A : Around} {E : Value → Shared → Prop} {s : Shared} {l : Addr} {items : Array Value} {Q : Value → Shared → Prop} (hL : s.heap.IsTuple l items)
    (h : ∀ h', IsEnum h' (s.heap.objs.size + 1) s.heap.objs.size 0 .none → h'.IsTupleIter s.heap.objs.size l 0 → h'.objs.size = s.heap.objs.size + 2 →
      (∀ b o, s.heap.get? b = some o → h'.get? b = some o) → Q (.ref (s.heap.objs.size + 1)) { s with heap := h' }) :
    wpAny (model prog w) A (call (.type "enumerate") [.ref l]) Q E s := by
  obtain ⟨⟨c, dct, dt, sl⟩, hl, hc, n, hd⟩ := hL
  replace hc : c = .type "tuple" := hc
  replace hd : dt = .seq items n := hd
  subst hc hd
  refine callType_new F.called_enumerate (by decide) (F.typeCall_enumerate_1 _) (F.newCall_enumerate_1 _) (fun obj => F.args_object_init_2 obj _) F.entry_enumerate_new
    (meets_enumT l items n dct sl) ⟨hl, ?_⟩
  have hz : (s.heap.push { cls := .type "tuple_iterator", data := .fields #[.ref l, .int 0 0] }).objs.size = s.heap.objs.size + 1 := Heap.size_push ..
  show _ ∧ _
  rw [hz]
  have he : IsEnum ((s.heap.push { cls := .type "tuple_iterator", data := .fields #[.ref l, .int 0 0] }).push
      { cls := .type "enumerate", data := .fields #[.none, .bool false, .ref s.heap.objs.size, rawInt 0, .none, .none] }) (s.heap.objs.size + 1) s.heap.objs.size 0 .none := by
    have := Heap.get?_push_size (s.heap.push { cls := .type "tuple_iterator", data := .fields #[.ref l, .int 0 0] })
      (o := { cls := .type "enumerate", data := .fields #[.none, .bool false, .ref s.heap.objs.size, rawInt 0, .none, .none] }) rfl
    rw [hz] at this
    exact this
  refine ⟨⟨_, he, rfl⟩, h _ he ⟨_, Heap.get?_push_of_some _ (Heap.get?_push_size _ rfl), rfl, rfl⟩ (by rw [Heap.size_push, hz]) fun b o x => Heap.get?_push_of_some _ (Heap.get?_push_of_some _ x)⟩
def IteT (K : PySem.W.Frag) (a : Addr) : It :=
  ⟨fun i H => ∃ (xs : List V) (x : V), SqT K H a xs ∧ xs[i]? = some x, fun i H v H' => ∃ T x, v = .ref T ∧ H T = none ∧ H' = upd H T (.tup [.int (i : Nat), x]) ∧ ∀ xs, SqT K H a xs → xs[i]? = some x, fun i H => ∃ xs : List V, SqT K H a xs ∧ xs.length ≤ i⟩
theorem turn_enumT {P : Program} {w : World} {K : PySem.W.Frag} {elts : List Expr} {kk : Nat} {tpos : Pos} (a e it : Addr) (hai : a ≠ it) (hae : a ≠ e) :
    Turn P w K (.Tuple elts kk tpos) (IteT K a) [e, it] e (fun i h => (∃ old, IsEnum h e it ((i : Nat) : Int) old) ∧ h.IsTupleIter it a i ∧ e ≠ it) where
  mem := by simp
  obj := fun i h st b hb => by
    obtain ⟨⟨old, he⟩, ⟨o, ho, hc, hd⟩, _⟩ := st
    have e' : b = e ∨ b = it := by simpa using hb
    rcases e' with z | z
    · rw [z]; exact ⟨_, he, fun v q => nomatch q⟩
    · rw [z]; exact ⟨o, ho, fun v q => by rw [hd] at q; cases q⟩
  keep := fun i h h' st k => let ⟨⟨old, he⟩, hi, hne⟩ := st; ⟨⟨old, k e (by simp) _ he⟩, hi.at fun o q => k it (by simp) o q, hne⟩
  item := by
    intro X hP hw hK hc i pins s σ H E I hf st hg
    subst hP hw hK
    obtain ⟨⟨old, he⟩, hit, hne⟩ := st
    obtain ⟨xs, x, hq, hx⟩ := hg
    obtain ⟨its, rv, p, hz⟩ := I.tuple hq
    have p' : s.heap.IsTuple a its.toArray := p
    obtain ⟨u, hu, ru⟩ := rv.get hx
    have hel : e < s.heap.objs.size := Heap.lt_size he
    have hil : it < s.heap.objs.size := by obtain ⟨_, q, _⟩ := hit; exact Heap.lt_size q
    have hlt : i < its.toArray.size := by simpa using (List.getElem?_eq_some_iff.mp hu).1
    refine wpAny_pyNext_enum_itemD (Draws.tuple (prog := X.prog) (w := X.w) (A := X.A.in1) (I.ok.hd hc) it a hai its.toArray) he ⟨hit, p'⟩ hlt hne (by simp [hne, Ne.symm hae]) fun v h' tk hv ho hst hT hsz hk => ?_
    obtain ⟨hit', p2⟩ := hst
    have hvu : v = u := by
      have h2 : its.toArray[i]? = some u := by simpa using hu
      rw [h2] at hv
      exact (Option.some.inj hv).symm
    subst hvu
    refine ⟨_, rfl, wpAny_letOwnedTupleGo_enum (s := { s with heap := h', toks := tk + 1 }) ho fun h'' he' sb => ?_⟩
    have hT2 : h''.get? s.heap.objs.size = some { cls := .type "tuple", data := .seq #[.int i tk, v] } := (sb.2 _ (Nat.ne_of_gt hel)).trans hT
    have new : ObjOk X.prog X.w (upd H s.heap.objs.size (.tup [.int (i : Nat), x])) h'' s.heap.objs.size (.tup [.int (i : Nat), x]) :=
      ⟨by show 2 ≤ sizeLine; decide, [.int i tk, v], .cons ⟨_, rfl⟩ (.cons ru .nil), ⟨_, hT2, rfl, _, rfl⟩⟩
    have I1 : Inv X pins σ (upd H s.heap.objs.size (.tup [.int (i : Nat), x])) { s with heap := h'', toks := tk + 1 } :=
      I.turnedNew (ch := [e, it]) (fun b ob hb q => (sb.2 b (fun z => hb (by simp [z]))).trans (hk b ob (fun z => hb (by simp [z])) (fun z => hb (by simp [z])) q)) hf (Nat.le_refl _) new
    refine ⟨.ref s.heap.objs.size, _, I1, rfl, ⟨_, x, rfl, I.hok.fresh (Nat.le_refl _), rfl, fun ys hy => by rw [I.tuple_inj hy hq]; exact hx⟩, ⟨⟨v, ?_⟩, hit'.at fun o q => (sb.2 it (Ne.symm hne)).trans q, hne⟩, fun b hb => ?_⟩
    · have e1 : ((i + 1 : Nat) : Int) = (i : Int) + 1 := by omega
      rw [e1]; exact he'
    · have hb' : b < s.heap.objs.size := by
        have e' : b = e ∨ b = it := by simpa using hb
        rcases e' with z | z
        · rw [z]; exact hel
        · rw [z]; exact hil
      rw [upd_ne (Nat.ne_of_lt hb')]
      exact (hf b hb).1
  done := by
    intro X hP hw hK hc i pins s σ H E I hf st hg
    subst hP hw hK
    obtain ⟨⟨old, he⟩, hit, hne⟩ := st
    obtain ⟨xs, hq, hx⟩ := hg
    obtain ⟨its, rv, p, hz⟩ := I.tuple hq
    have p' : s.heap.IsTuple a its.toArray := p
    obtain ⟨f0, f1, f2, f3, f4, f5⟩ := hf it (by simp)
    have hl := rv.length
    have full : Draws X.prog X.w X.A.in1 it [it, a] i (fun _ _ => True) (fun j h => j = i ∧ h.IsTupleIter it a j ∧ h.IsTuple a its.toArray) :=
      { live := fun j h st => let ⟨_, ⟨o, ho, _⟩, _⟩ := st; ⟨o, ho⟩
        frame := fun j h h' st hk => ⟨st.1, st.2.1.at fun o e => hk it (by simp) o e, by
          obtain ⟨o, ho, r⟩ := st.2.2
          exact ⟨o, hk a (by simp) o ho, r⟩⟩
        item := fun j s Q E hj st hQ => absurd st.1 (Nat.ne_of_lt hj)
        done := fun s Q E st hE => wpAny_nextOf_tuple_end (show X.A.in1.handled = none from I.ok.hd hc) st.2.1 st.2.2 (by simp; omega) hE }
    exact wpAny_pyNext_enum_endD full he ⟨rfl, hit, p'⟩ fun h' eb => ⟨rfl, I.turned (t' := s.toks) (fun b o hb q => eb b o hb q) f0 f1 f3 f4 f5⟩
  self := fun A i s Q E st h => let ⟨⟨_, he⟩, _⟩ := st; wpAny_pyIter_enum he h
def iEnumT (K : PySem.W.Frag) (ta : TA) : TI := fun σ H R => ta σ H fun vs H1 => ∃ a xs, vs = [.ref a] ∧ SqT K H1 a xs ∧ R (IteT K a) H1
theorem pi_enumT {X : Cx} {e : Expr} {ta : TA} {p pos tpos : Pos} {elts : List Expr} {kk : Nat} (hg : Gl X "enumerate") (hm : X.mg "enumerate" = none) (ha : PA X [e] ta) (hs : starEach [e] X.env = [(false, eval e X.env)] := by rfl) :
    PI X (.Tuple elts kk tpos) (.Call (.Name "enumerate" p) [e] [] pos) (iEnumT X.K ta) := by
  refine ⟨fun pins s σ H R I h => ?_⟩
  refine Call_ (ld_blt I hg hm boot_enumerate (PyProof.Rows.callWith_type1 (thn (ha.run pos pins s σ H _ I h) fun us s1 ⟨vs, H1, I1, r1, q1⟩ => ?_) hs rfl))
  obtain ⟨a, xs, ex, hq, q⟩ := q1
  subst ex
  cases r1 with
  | cons r rr =>
    cases rr
    cases r
    obtain ⟨its, rv, p', hz⟩ := I1.tuple hq
    have p2 : s1.heap.IsTuple a its.toArray := p'
    have hal : a < s1.heap.objs.size := by obtain ⟨_, q, _⟩ := p2; exact Heap.lt_size q
    refine call_enumT p2 fun h' he hit hsz hk => wpAny_pyIter_enum he ?_
    have I2 : Inv X pins σ H1 { s1 with heap := h' } := I1.kept (t' := s1.toks) hk
    refine ⟨s1.heap.objs.size + 1, [s1.heap.objs.size + 1, s1.heap.objs.size], _, _, H1, rfl, I2, turn_enumT a (s1.heap.objs.size + 1) s1.heap.objs.size (Nat.ne_of_lt hal) (Nat.ne_of_lt (Nat.lt_succ_of_lt hal)), ⟨⟨.none, he⟩, hit, Nat.succ_ne_self _⟩, fun b hb => ?_, q⟩
    have e' : b = s1.heap.objs.size + 1 ∨ b = s1.heap.objs.size := by simpa using hb
    have hle : s1.heap.objs.size ≤ b := by
      rcases e' with z | z
      · rw [z]; exact Nat.le_add_right _ _
      · rw [z]; exact Nat.le_refl _
    exact I1.fpOk hle (I1.hok.fresh hle)
def iEnumS (K : PySem.W.Frag) (ta : TA) : TI := fun σ H R => iEnum K ta σ H R ∨ iEnumT K ta σ H R
theorem pi_enumS {X : Cx} {e : Expr} {ta : TA} {p pos tpos : Pos} {elts : List Expr} {kk : Nat} (hg : Gl X "enumerate") (hm : X.mg "enumerate" = none) (ha : PA X [e] ta) (hs : starEach [e] X.env = [(false, eval e X.env)] := by rfl) :
    PI X (.Tuple elts kk tpos) (.Call (.Name "enumerate" p) [e] [] pos) (iEnumS X.K ta) := by
  refine ⟨fun pins s σ H R I h => ?_⟩
  rcases h with h | h
  · exact (pi_enum hg hm ha hs).run pins s σ H R I h
  · exact (pi_enumT hg hm ha hs).run pins s σ H R I h
section
variable {K : PySem.W.Frag} {a : Addr} {xs : List V}
theorem walk_enumT : Walk (IteT K a) xs.length (fun H => SqT K H a xs) (YPair (fun i => some (.int (i : Nat))) (fun i => xs[i]?)) := by
  refine ⟨fun i _ hi q => ⟨xs, xs[i], q, by simp [hi]⟩, fun _ q => ⟨xs, q, Nat.le_refl _⟩, fun i H v H' _ q y => ?_⟩
  obtain ⟨T, x, h1, h2, h3, h4⟩ := y
  exact ⟨T, .int (i : Nat), x, h1, h2, h3, rfl, h4 xs q⟩
/-- for i, x in enumerate(xs) with two names as the target: the pair is a new tuple that nobody keeps -/
theorem for_enum {tb : TS} {D : Ends} {σ : L2.St} {H : Hp} {p q : Nat} {ta : TA} (ea : ∀ R : List V → Hp → Prop, R [.ref a] H → ta σ H R) (hx : SqL K H a xs ∨ SqT K H a xs) (Pv : Nat → L2.St → Hp → Prop) (h0 : Pv 0 σ H)
    (hG : ∀ i σ H', i ≤ xs.length → Pv i σ H' → Ex H H')
    (hs : ∀ i x σ H' T, xs[i]? = some x → Pv i σ H' → H' T = none → tb { D with nx := Pv (i + 1), ct := Pv (i + 1), bk := D.nx } ((σ.set p (some (.int (i : Int)))).set q (some x)) (upd H' T (.tup [.int (i : Int), x]))) (hd : ∀ σ H, Pv xs.length σ H → D.nx σ H) :
    tFor (iEnumS K ta) (gTup K 2 (gCons (gName p) (gCons (gName q) gNil))) tb D σ H := by
  have turn : ∀ i v σ' H1 H2, i < xs.length → Pv i σ' H1 → YPair (fun i => some (V.int (i : Nat))) (fun i => xs[i]?) i H1 v H2 → gTup K 2 (gCons (gName p) (gCons (gName q) gNil)) v σ' H2 fun σ2 H3 => tb { D with nx := Pv (i + 1), ct := Pv (i + 1), bk := D.nx } σ2 H3 := by
    rintro i v σ' H1 H2 hi pv ⟨T, u, x, rfl, hT, rfl, h1, h2⟩
    cases Option.some.inj h1
    exact ⟨T, _, rfl, SqT.of upd_same, rfl, _, _, rfl, _, _, rfl, rfl, hs i x σ' H1 T h2 pv hT⟩
  rcases hx with hx | hx
  · exact .inl (ea _ ⟨a, xs, rfl, hx, for_it walk_enum Pv h0 (fun i σ' H' hi pv => ex_l (hG i σ' H' hi pv) hx) turn hd⟩)
  · exact .inr (ea _ ⟨a, xs, rfl, hx, for_it walk_enumT Pv h0 (fun i σ' H' hi pv => ex_t (hG i σ' H' hi pv) hx) turn hd⟩)
end
end L2.U


set_option Elab.async false
set_option linter.all false
set_option maxRecDepth 100000
set_option maxHeartbeats 4000000
namespace L2.U
open PySem PySem.Spec PyProof.Rows Evl
def top (i : Nat) : Stmt := PySem.Challenge.pw_upforgood_k04_raised_rounds_and_answers.main.body.getD i (.Pass ⟨0, 0, 0, 0⟩)
abbrev s_is_integer : Stmt := top 2
theorem sc_is_integer : FnScope ["value"] ["value"] (defScope s_is_integer) := ⟨rfl, rfl, rfl, by decide +kernel, rfl, by decide +kernel, by decide +kernel⟩
abbrev s_is_between : Stmt := top 3
theorem sc_is_between : FnScope ["value", "low", "high"] ["value", "low", "high"] (defScope s_is_between) := ⟨rfl, rfl, rfl, by decide +kernel, rfl, by decide +kernel, by decide +kernel⟩
abbrev s_is_from : Stmt := top 4
theorem sc_is_from : FnScope ["value", "low"] ["value", "low"] (defScope s_is_from) := ⟨rfl, rfl, rfl, by decide +kernel, rfl, by decide +kernel, by decide +kernel⟩
abbrev s_is_list : Stmt := top 5
theorem sc_is_list : FnScope ["value"] ["value"] (defScope s_is_list) := ⟨rfl, rfl, rfl, by decide +kernel, rfl, by decide +kernel, by decide +kernel⟩
abbrev s_are_from : Stmt := top 7
theorem sc_are_from : FnScope ["values", "low", "value"] ["values", "low"] (defScope s_are_from) := ⟨rfl, rfl, rfl, by decide +kernel, rfl, by decide +kernel, by decide +kernel⟩
abbrev s_law_cell : Stmt := top 39
theorem sc_law_cell : FnScope ["script", "k"] ["script", "k"] (defScope s_law_cell) := ⟨rfl, rfl, rfl, by decide +kernel, rfl, by decide +kernel, by decide +kernel⟩
abbrev s_law_box : Stmt := top 40
theorem sc_law_box : FnScope ["great"] ["great"] (defScope s_law_box) := ⟨rfl, rfl, rfl, by decide +kernel, rfl, by decide +kernel, by decide +kernel⟩
abbrev s_law_take : Stmt := top 41
theorem sc_law_take : FnScope ["box", "many", "digit", "mixed"] ["box", "many"] (defScope s_law_take) := ⟨rfl, rfl, rfl, by decide +kernel, rfl, by decide +kernel, by decide +kernel⟩
abbrev s_law_same : Stmt := top 42
theorem sc_law_same : FnScope ["told", "due", "k"] ["told", "due"] (defScope s_law_same) := ⟨rfl, rfl, rfl, by decide +kernel, rfl, by decide +kernel, by decide +kernel⟩
structure TA1 (K : PySem.W.Frag) (mg : Str → Option Value) where
  is_integer : DefAt K mg "is_integer" s_is_integer ["value"]
  is_between : DefAt K mg "is_between" s_is_between ["value", "low", "high"]
  is_from : DefAt K mg "is_from" s_is_from ["value", "low"]
  is_list : DefAt K mg "is_list" s_is_list ["value"]
  are_from : DefAt K mg "are_from" s_are_from ["values", "low"]
  law_cell : DefAt K mg "_law_cell" s_law_cell ["script", "k"]
  law_box : DefAt K mg "_law_box" s_law_box ["great"]
  law_take : DefAt K mg "_law_take" s_law_take ["box", "many"]
  law_same : DefAt K mg "_law_same" s_law_same ["told", "due"]
  z_int : mg "int" = none
  z_bool : mg "bool" = none
  z_str : mg "str" = none
  z_list : mg "list" = none
  z_tuple : mg "tuple" = none
  z_len : mg "len" = none
  z_sum : mg "sum" = none
  z_abs : mg "abs" = none
  z_all : mg "all" = none
  z_range : mg "range" = none
  z_isinstance : mg "isinstance" = none
section
variable {P : Program} {w : World} {K : PySem.W.Frag} {mg : Str → Option Value} {base : Heap}
def isI : V → Bool
  | .int _ => true
  | _ => false
/-- a value of one of the kinds of data -/
def Dat (K : PySem.W.Frag) (H : Hp) (x : V) : Prop := ∃ t, t ∈ ["NoneType", "bool", "int", "str", "list", "tuple", "dict"] ∧ TyX K H x (.type t) ∧ isI x = decide (t = "int")
theorem Dat.int {H : Hp} {i : Int} : Dat K H (.int i) := ⟨"int", by decide, .base (.int i), rfl⟩
theorem Dat.ex {H H' : Hp} {x : V} (e : Ex H H') (h : Dat K H x) : Dat K H' x := by
  obtain ⟨t, ht, ty, hi⟩ := h
  refine ⟨t, ht, ?_, hi⟩
  cases ty with
  | base b =>
    refine .base ?_
    cases b with
    | non => exact .non
    | bl x => exact .bl x
    | int i => exact .int i
    | str z => exact .str z
    | flt z => exact .flt z
    | lst h => exact .lst (e _ _ h)
    | frz h => exact .frz (e _ _ h)
    | tup h => exact .tup (e _ _ h)
    | dK h => exact .dK (e _ _ h)
    | dT h => exact .dT (e _ _ h)
  | byt b => exact .byt b
  | set h => exact .set (e _ _ h)
  | kList a b => exact .kList a b
  | kTuple a b => exact .kTuple a b
  | kDict a b => exact .kDict a b
  | fTuple h => exact .fTuple (e _ _ h)
  | fDict h => exact .fDict (e _ _ h)
def spIsInteger (K : PySem.W.Frag) : Sp := fun vs H Q _ => ∃ x, vs = [x] ∧ Dat K H x ∧ Q (.bl (isI x)) H
theorem ok_is_integer (T : TA1 K mg) : FnOk P w K mg base CX0 1 T.is_integer.a T.is_integer.fd ["value"] (spIsInteger K) := by
  refine T.is_integer.F.ok sc_is_integer (fun vs H Q E h => ?_) (fun cdv A outer s H vs Q E hr h => ?_)
  · obtain ⟨x, rfl, _⟩ := h; rfl
  obtain ⟨x, rfl, ⟨t, ht, ty, hi⟩, q⟩ := h
  refine ⟨_, (pss_one (ps_ret (pe_and (pe_callB (kisi K) (by rfl) T.z_isinstance (by decide +kernel) (pa_cons (pv 0) (pa_cons (pe_bltn (v := .ty "int") rfl T.z_int (by decide +kernel) rfl) pa_nil))) (pe_one (pe_not (pe_callB (kisi K) (by rfl) T.z_isinstance (by decide +kernel) (pa_cons (pv 0) (pa_cons (pe_bltn (v := .ty "bool") rfl T.z_bool (by decide +kernel) rfl) pa_nil)))))))), ?_⟩
  simp only [List.mem_cons, List.not_mem_nil, or_false] at ht
  rcases ht with rfl | rfl | rfl | rfl | rfl | rfl | rfl
  · refine ⟨_, rfl, _, _, _, _, _, rfl, .ty "int", ty, kit_ty (r := false) (by decide +kernel), false, rfl, iteF ?_⟩
    rw [hi] at q; exact q
  · refine ⟨_, rfl, _, _, _, _, _, rfl, .ty "int", ty, kit_ty (r := true) (by decide +kernel), true, rfl, iteT ?_⟩
    refine ⟨_, rfl, _, _, _, _, _, rfl, .ty "bool", ty, kit_ty (r := true) (by decide +kernel), true, rfl, ?_⟩
    rw [hi] at q; exact q
  · refine ⟨_, rfl, _, _, _, _, _, rfl, .ty "int", ty, kit_ty (r := true) (by decide +kernel), true, rfl, iteT ?_⟩
    refine ⟨_, rfl, _, _, _, _, _, rfl, .ty "bool", ty, kit_ty (r := false) (by decide +kernel), false, rfl, ?_⟩
    rw [hi] at q; exact q
  all_goals
    refine ⟨_, rfl, _, _, _, _, _, rfl, .ty "int", ty, kit_ty (r := false) (by decide +kernel), false, rfl, iteF ?_⟩
    rw [hi] at q; exact q
def spIsFrom (K : PySem.W.Frag) : Sp := fun vs H Q _ => ∃ (x : V) (lo : Int), vs = [x, .int lo] ∧ Dat K H x ∧ ∀ b, (∀ i, x = .int i → b = decide (lo ≤ i)) → (isI x = false → b = false) → Q (.bl b) H
theorem isI_int {x : V} (h : isI x = true) : ∃ i, x = .int i := by
  cases x <;> first | exact ⟨_, rfl⟩ | cases h
theorem ok_is_from (T : TA1 K mg) : FnOk P w K mg base CX0 2 T.is_from.a T.is_from.fd ["value", "low"] (spIsFrom K) := by
  refine T.is_from.F.ok sc_is_from (fun vs H Q E h => ?_) (fun cdv A outer s H vs Q E hr h => ?_)
  · obtain ⟨x, lo, rfl, _⟩ := h; rfl
  obtain ⟨x, lo, rfl, hd, q⟩ := h
  refine ⟨_, (pss_one (ps_ret (pe_and (pe_call (ok_is_integer T) (hr.mono (by decide)) rfl T.is_integer.m T.is_integer.F.kp T.is_integer.b .nil pass0 (pa_cons (pv 0) pa_nil)) (pe_one (pe_cmpR op_le (pv 1) (pv 0) (nomark _)))))), ?_⟩
  refine ⟨_, rfl, _, rfl, hd, isI x, rfl, ?_⟩
  cases hx : isI x with
  | false => exact q false (fun i e => by rw [e] at hx; cases hx) (fun _ => rfl)
  | true =>
    obtain ⟨i, rfl⟩ := isI_int hx
    refine ⟨_, rfl, _, rfl, _, _, rfl, rfl, q _ (fun j e => by cases e; rfl) (fun e => by cases e)⟩
def spIsBetween (K : PySem.W.Frag) : Sp := fun vs H Q _ => ∃ (x : V) (lo hi : Int), vs = [x, .int lo, .int hi] ∧ Dat K H x ∧ ∀ b, (∀ i, x = .int i → b = decide (lo ≤ i ∧ i ≤ hi)) → (isI x = false → b = false) → Q (.bl b) H
theorem ok_is_between (T : TA1 K mg) : FnOk P w K mg base CX0 2 T.is_between.a T.is_between.fd ["value", "low", "high"] (spIsBetween K) := by
  refine T.is_between.F.ok sc_is_between (fun vs H Q E h => ?_) (fun cdv A outer s H vs Q E hr h => ?_)
  · obtain ⟨x, lo, hi, rfl, _⟩ := h; rfl
  obtain ⟨x, lo, hi, rfl, hd, q⟩ := h
  refine ⟨_, (pss_one (ps_ret (pe_and (pe_call (ok_is_integer T) (hr.mono (by decide)) rfl T.is_integer.m T.is_integer.F.kp T.is_integer.b .nil pass0 (pa_cons (pv 0) pa_nil)) (pe_one (pe_chain op_le op_le (pv 1) (pv 0) (pv 2)))))), ?_⟩
  refine ⟨_, rfl, _, rfl, hd, isI x, rfl, ?_⟩
  cases hx : isI x with
  | false => exact q false (fun i e => by rw [e] at hx; cases hx) (fun _ => rfl)
  | true =>
    obtain ⟨i, rfl⟩ := isI_int hx
    refine ⟨_, rfl, _, rfl, _, _, rfl, rfl, _, rfl, ite2 (fun c => ?_) (fun c => ?_)⟩
    · refine ⟨_, rfl, _, _, rfl, rfl, q _ (fun j e => ?_) (fun e => by cases e)⟩
      cases e
      have c' := of_decide_eq_true c
      simp [c']
    · refine q _ (fun j e => ?_) (fun e => by cases e)
      cases e
      have c' := of_decide_eq_false (Bool.eq_false_iff.mpr c)
      simp [c']
/-! ### data: what a value holds -/
inductive Rd (K : PySem.W.Frag) (ok : Addr → Prop) (H : Hp) : Nat → V → PyData → Prop
  | non {n} : Rd K ok H n .non .none
  | bl {n} (b : Bool) : Rd K ok H n (.bl b) (.bool b)
  | int {n} (i : Int) : Rd K ok H n (.int i) (.int i)
  | str {n} (z : Str) (h : z.length ≤ 1000) (h2 : PyData.strOk z = true) : Rd K ok H n (.str z) (.str z)
  | lst {n} {a : Addr} {xs : List V} {ds : List PyData} (h : H a = some (.lst xs)) (ha : ok a) (hl : xs.length = ds.length) (hz : xs.length ≤ 900)
      (all : ∀ (i : Nat) (x : V) (d : PyData), xs[i]? = some x → ds[i]? = some d → Rd K ok H n x d) : Rd K ok H (n + 1) (.ref a) (.list ds)
  | tup {n} {a : Addr} {xs : List V} {ds : List PyData} (h : SqT K H a xs) (ha : ok a) (hl : xs.length = ds.length) (hz : xs.length ≤ 900)
      (all : ∀ (i : Nat) (x : V) (d : PyData), xs[i]? = some x → ds[i]? = some d → Rd K ok H n x d) : Rd K ok H (n + 1) (.ref a) (.tuple ds)
def RdL (K : PySem.W.Frag) (ok : Addr → Prop) (H : Hp) (n : Nat) (xs : List V) (ds : List PyData) : Prop :=
  xs.length = ds.length ∧ ∀ (i : Nat) (x : V) (d : PyData), xs[i]? = some x → ds[i]? = some d → Rd K ok H n x d
section
variable {ok : Addr → Prop} {H H' : Hp} {n : Nat} {x y : V} {d : PyData}
theorem Rd.keep (kl : ∀ a xs, ok a → H a = some (.lst xs) → H' a = some (.lst xs)) (kt : ∀ a xs, ok a → SqT K H a xs → SqT K H' a xs) (h : Rd K ok H n x d) : Rd K ok H' n x d := by
  induction h with
  | non => exact .non
  | bl b => exact .bl b
  | int i => exact .int i
  | str z h h2 => exact .str z h h2
  | lst h1 ha hl hz _ ih => exact .lst (kl _ _ ha h1) ha hl hz ih
  | tup h1 ha hl hz _ ih => exact .tup (kt _ _ ha h1) ha hl hz ih
theorem Rd.ex (e : Ex H H') (h : Rd K ok H n x d) : Rd K ok H' n x d := h.keep (fun _ _ _ => e _ _) (fun _ _ _ => ex_t e)
theorem Rd.but {b : Addr} (k : But b H H') (hb : ∀ a, ok a → a ≠ b) (h : Rd K ok H n x d) : Rd K ok H' n x d :=
  h.keep (fun _ _ ha hs => k _ _ (hb _ ha) hs) (fun _ _ ha hs => k.sqt (hb _ ha) hs)
theorem Rd.of {ok' : Addr → Prop} (w : ∀ a, ok a → ok' a) (h : Rd K ok H n x d) : Rd K ok' H n x d := by
  induction h with
  | non => exact .non
  | bl b => exact .bl b
  | int i => exact .int i
  | str z h h2 => exact .str z h h2
  | lst h1 ha hl hz _ ih => exact .lst h1 (w _ ha) hl hz ih
  | tup h1 ha hl hz _ ih => exact .tup h1 (w _ ha) hl hz ih
theorem Rd.succ (h : Rd K ok H n x d) : Rd K ok H (n + 1) x d := by
  induction h with
  | non => exact .non
  | bl b => exact .bl b
  | int i => exact .int i
  | str z h h2 => exact .str z h h2
  | lst h1 ha hl hz _ ih => exact .lst h1 ha hl hz ih
  | tup h1 ha hl hz _ ih => exact .tup h1 ha hl hz ih
theorem Rd.le {m : Nat} (h : Rd K ok H n x d) (l : n ≤ m) : Rd K ok H m x d := by
  induction l with
  | refl => exact h
  | step _ ih => exact ih.succ
theorem RdL.ex {xs : List V} {ds : List PyData} (e : Ex H H') (h : RdL K ok H n xs ds) : RdL K ok H' n xs ds := ⟨h.1, fun i x d hx hd => (h.2 i x d hx hd).ex e⟩
theorem RdL.but {b : Addr} {xs : List V} {ds : List PyData} (k : But b H H') (hb : ∀ a, ok a → a ≠ b) (h : RdL K ok H n xs ds) : RdL K ok H' n xs ds := ⟨h.1, fun i x d hx hd => (h.2 i x d hx hd).but k hb⟩
theorem Rd.sm (h : Rd K ok H n x d) : ∀ {ok' : Addr → Prop} {y : V}, Rd K ok' H n y d → Sm K H n x y := by
  induction h with
  | non => intro ok' y h2; cases h2; exact .non
  | bl b => intro ok' y h2; cases h2; exact .bl b
  | int i => intro ok' y h2; cases h2; exact .int i
  | str z h h3 => intro ok' y h2; cases h2; exact .str z h
  | lst h1 ha hl hz all ih =>
    intro ok' y h2
    cases h2 with
    | lst h1' ha' hl' hz' all' =>
      refine .lst (SqL.of h1) (SqL.of h1') (by omega) (by omega) fun i x y hx hy => ?_
      have hi := (List.getElem?_eq_some_iff.mp hx).1
      exact ih i x _ hx (List.getElem?_eq_getElem (by omega)) (all' i y _ hy (List.getElem?_eq_getElem (by omega)))
  | tup h1 ha hl hz all ih =>
    intro ok' y h2
    cases h2 with
    | tup h1' ha' hl' hz' all' =>
      refine .tup h1 h1' (by omega) (by omega) fun i x y hx hy => ?_
      have hi := (List.getElem?_eq_some_iff.mp hx).1
      exact ih i x _ hx (List.getElem?_eq_getElem (by omega)) (all' i y _ hy (List.getElem?_eq_getElem (by omega)))
theorem dpAll_of {xs : List V} : ∀ {ds : List PyData}, xs.length = ds.length → (∀ (i : Nat) (x : V) (d : PyData), xs[i]? = some x → ds[i]? = some d → Dp K H x d) → DpAll K H xs ds := by
  induction xs with
  | nil => intro ds hl _; cases ds with
    | nil => exact .nil
    | cons d r => cases hl
  | cons x r ih => intro ds hl h; cases ds with
    | nil => cases hl
    | cons d r2 => exact .cons (h 0 x d rfl rfl) (ih (Nat.succ.inj hl) fun i x d hx hd => h (i + 1) x d hx hd)
theorem Rd.dp (h : Rd K ok H n x d) : Dp K H x d := by
  induction h with
  | non => exact .non
  | bl b => exact .bl b
  | int i => exact .int i
  | str z h h2 => exact .str z
  | lst h1 ha hl hz _ ih => exact .lst (SqL.of h1) (dpAll_of hl ih)
  | tup h1 ha hl hz _ ih => exact .tup h1 (dpAll_of hl ih)
theorem layAll_of : ∀ {ds : List PyData} {n : Nat}, (∀ d ∈ ds, d.canLay0 = true ∧ d.depth ≤ n) → PyData.canLayAll0 ds = true ∧ PyData.depthAll ds ≤ n
  | [], n, _ => by simp [PyData.canLayAll0, PyData.depthAll]
  | d :: r, n, h => by
    have h1 := h d (by simp)
    have h2 := layAll_of (ds := r) (n := n) fun z hz => h z (by simp [hz])
    simp only [PyData.canLayAll0, PyData.depthAll, h1.1, h2.1, Bool.and_self, true_and]
    omega
theorem Rd.lay (h : Rd K ok H n x d) : d.canLay0 = true ∧ d.depth ≤ n := by
  induction h with
  | non => simp [PyData.canLay0, PyData.depth]
  | bl b => simp [PyData.canLay0, PyData.depth]
  | int i => simp [PyData.canLay0, PyData.depth]
  | str z h h2 => simp [PyData.canLay0, PyData.depth, h2]
  | @lst n a xs ds h1 ha hl hz all ih =>
    have := layAll_of (ds := ds) (n := n) fun d hd => by
      obtain ⟨i, hi⟩ := List.mem_iff_getElem?.mp hd
      have hlt := (List.getElem?_eq_some_iff.mp hi).1
      exact ih i _ d (List.getElem?_eq_getElem (by omega)) hi
    simp only [PyData.canLay0, PyData.depth, this.1, true_and]
    omega
  | @tup n a xs ds h1 ha hl hz all ih =>
    have := layAll_of (ds := ds) (n := n) fun d hd => by
      obtain ⟨i, hi⟩ := List.mem_iff_getElem?.mp hd
      have hlt := (List.getElem?_eq_some_iff.mp hi).1
      exact ih i _ d (List.getElem?_eq_getElem (by omega)) hi
    simp only [PyData.canLay0, PyData.depth, this.1, true_and]
    omega
theorem Rd.shaped (h : Rd K ok H n x d) (hn : n ≤ 64) : SeqAt.shaped d = true := by
  have := h.lay
  unfold SeqAt.shaped
  rw [this.1, decide_eq_true (by omega)]
  rfl
theorem Rd.dat (h : Rd K ok H n x d) : Dat K H x := by
  cases h with
  | non => exact ⟨"NoneType", by decide, .base .non, rfl⟩
  | bl b => exact ⟨"bool", by decide, .base (.bl b), rfl⟩
  | int i => exact .int
  | str z h h2 => exact ⟨"str", by decide, .base (.str z), rfl⟩
  | lst h1 => exact ⟨"list", by decide, tyL (SqL.of h1), rfl⟩
  | tup h1 => exact ⟨"tuple", by decide, tyT h1, rfl⟩
end
def fromD (lo : Int) : PyData → Bool
  | .int i => decide (lo ≤ i)
  | _ => false
def betwD (lo hi : Int) : PyData → Bool
  | .int i => decide (lo ≤ i ∧ i ≤ hi)
  | _ => false
def isSeq : PyData → Bool
  | .list _ => true
  | .tuple _ => true
  | _ => false
theorem rd_from {ok : Addr → Prop} {H : Hp} {n : Nat} {x : V} {d : PyData} {lo : Int} {b : Bool} (h : Rd K ok H n x d) (h1 : ∀ i, x = .int i → b = decide (lo ≤ i)) (h2 : isI x = false → b = false) : b = fromD lo d := by
  cases h <;> first | exact h1 _ rfl | exact h2 rfl
theorem rd_betw {ok : Addr → Prop} {H : Hp} {n : Nat} {x : V} {d : PyData} {lo hi : Int} {b : Bool} (h : Rd K ok H n x d) (h1 : ∀ i, x = .int i → b = decide (lo ≤ i ∧ i ≤ hi)) (h2 : isI x = false → b = false) : b = betwD lo hi d := by
  cases h <;> first | exact h1 _ rfl | exact h2 rfl
/-- data, or an empty dict -/
def RdA (K : PySem.W.Frag) (ok : Addr → Prop) (H : Hp) (n : Nat) (x : V) (d : PyData) : Prop := Rd K ok H n x d ∨ ∃ a, x = .ref a ∧ d = .dict [] ∧ ok a ∧ H a = some (.dK [])
section
variable {ok : Addr → Prop} {H H' : Hp} {n : Nat} {x : V} {d : PyData}
theorem RdA.rd (h : RdA K ok H n x d) (s : isSeq d = true) : Rd K ok H n x d := by
  rcases h with h | ⟨a, rfl, rfl, _⟩
  · exact h
  · cases s
theorem RdA.ex (e : Ex H H') (h : RdA K ok H n x d) : RdA K ok H' n x d := by
  rcases h with h | ⟨a, h1, h2, h3, h4⟩
  · exact .inl (h.ex e)
  · exact .inr ⟨a, h1, h2, h3, e _ _ h4⟩
theorem RdA.but {b : Addr} (k : But b H H') (hb : ∀ a, ok a → a ≠ b) (h : RdA K ok H n x d) : RdA K ok H' n x d := by
  rcases h with h | ⟨a, h1, h2, h3, h4⟩
  · exact .inl (h.but k hb)
  · exact .inr ⟨a, h1, h2, h3, k _ _ (hb a h3) h4⟩
theorem RdA.of {ok' : Addr → Prop} (w : ∀ a, ok a → ok' a) (h : RdA K ok H n x d) : RdA K ok' H n x d := by
  rcases h with h | ⟨a, h1, h2, h3, h4⟩
  · exact .inl (h.of w)
  · exact .inr ⟨a, h1, h2, w a h3, h4⟩
theorem RdA.dat (h : RdA K ok H n x d) : Dat K H x := by
  rcases h with h | ⟨a, rfl, rfl, _, h4⟩
  · exact h.dat
  · exact ⟨"dict", by decide, .base (.dK h4), rfl⟩
theorem rda_betw {lo hi : Int} {b : Bool} (h : RdA K ok H n x d) (h1 : ∀ i, x = .int i → b = decide (lo ≤ i ∧ i ≤ hi)) (h2 : isI x = false → b = false) : b = betwD lo hi d := by
  rcases h with h | ⟨a, rfl, rfl, _⟩
  · exact rd_betw h h1 h2
  · exact h2 rfl
theorem RdA.sm {ok' : Addr → Prop} {y : V} (h : RdA K ok H n x d) (h2 : RdA K ok' H n y d) : Sm K H (n + 1) x y := by
  rcases h with h | ⟨a, rfl, rfl, _, h4⟩
  · rcases h2 with h2 | ⟨a, rfl, rfl, _⟩
    · exact (h.sm h2).succ
    · cases h
  · rcases h2 with h2 | ⟨c, rfl, _, _, h5⟩
    · cases h2
    · exact .dct h4 h5
end
def spIsList (K : PySem.W.Frag) : Sp := fun vs H Q _ => ∃ x d n ok, vs = [x] ∧ RdA K ok H n x d ∧ ∀ H', Ex H H' → Q (.bl (isSeq d)) H'
theorem ok_is_list (T : TA1 K mg) : FnOk P w K mg base CX0 1 T.is_list.a T.is_list.fd ["value"] (spIsList K) := by
  refine T.is_list.F.ok sc_is_list (fun vs H Q E h => ?_) (fun cdv A outer s H vs Q E hr h => ?_)
  · obtain ⟨x, d, n, ok, rfl, _⟩ := h; rfl
  obtain ⟨x, d, n, ok, rfl, h, q⟩ := h
  refine ⟨_, (pss_one (ps_ret (pe_callB (kisiT K) (by rfl) T.z_isinstance (by decide +kernel) (pa_cons (pv 0) (pa_cons (pe_tup (pa_cons (pe_bltn (v := .ty "list") rfl T.z_list (by decide +kernel) rfl) (pa_cons (pe_bltn (v := .ty "tuple") rfl T.z_tuple (by decide +kernel) rfl) pa_nil))) pa_nil))))), ?_⟩
  refine ⟨_, rfl, (by show 2 ≤ sizeLine; decide), fun p hp => ?_⟩
  have q1 := q _ (Ex.new (o := .tup [.ty "list", .ty "tuple"]) hp)
  rcases h with h | ⟨a, rfl, rfl, _, hd⟩
  case inr =>
    exact ⟨_, p, [.ty "list", .ty "tuple"], _, [.type "list", .type "tuple"], false, rfl, upd_same, .cons (.ty _) (.cons (.ty _) .nil), .base (.dK ((Ex.new hp) _ _ hd)), rfl, q1⟩
  cases h with
  | non => exact ⟨_, p, [.ty "list", .ty "tuple"], _, [.type "list", .type "tuple"], false, rfl, upd_same, .cons (.ty _) (.cons (.ty _) .nil), .base .non, rfl, q1⟩
  | bl b => exact ⟨_, p, [.ty "list", .ty "tuple"], _, [.type "list", .type "tuple"], false, rfl, upd_same, .cons (.ty _) (.cons (.ty _) .nil), .base (.bl b), rfl, q1⟩
  | int i => exact ⟨_, p, [.ty "list", .ty "tuple"], _, [.type "list", .type "tuple"], false, rfl, upd_same, .cons (.ty _) (.cons (.ty _) .nil), .base (.int i), rfl, q1⟩
  | str z _ _ => exact ⟨_, p, [.ty "list", .ty "tuple"], _, [.type "list", .type "tuple"], false, rfl, upd_same, .cons (.ty _) (.cons (.ty _) .nil), .base (.str z), rfl, q1⟩
  | lst h1 => exact ⟨_, p, [.ty "list", .ty "tuple"], _, [.type "list", .type "tuple"], true, rfl, upd_same, .cons (.ty _) (.cons (.ty _) .nil), tyL (SqL.of ((Ex.new hp) _ _ h1)), rfl, q1⟩
  | tup h1 => exact ⟨_, p, [.ty "list", .ty "tuple"], _, [.type "list", .type "tuple"], true, rfl, upd_same, .cons (.ty _) (.cons (.ty _) .nil), tyT (ex_t (Ex.new hp) h1), rfl, q1⟩
theorem at_get {xs : List V} {k : Int} (h0 : 0 ≤ k) (h : k < (xs.length : Int)) : ∃ v, atI xs k = some v ∧ xs[k.toNat]? = some v := by
  have hk : k.toNat < xs.length := by omega
  refine ⟨xs[k.toNat], ?_, List.getElem?_eq_getElem hk⟩
  exact at_of (by omega) (List.getElem?_eq_getElem hk)
theorem ints_get {ns : List Int} {i : Nat} {v : V} (h : (ns.map V.int)[i]? = some v) : ∃ z, ns[i]? = some z ∧ v = .int z := by
  rw [List.getElem?_map] at h
  cases e : ns[i]? with
  | none => rw [e] at h; cases h
  | some z => rw [e] at h; exact ⟨z, rfl, (Option.some.inj h).symm⟩
theorem cutV_ints (ns : List Int) (lo hi : Option Int) : ∃ ms : List Int, cutV (ns.map V.int) lo hi = ms.map V.int := by
  refine ⟨(ns.drop (HT.sIx (ns.map V.int).length 0 lo)).take (HT.sIx (ns.map V.int).length (ns.map V.int).length hi - HT.sIx (ns.map V.int).length 0 lo), ?_⟩
  unfold cutV
  rw [List.map_take, List.map_drop]
theorem ok_law_cell (T : TA1 K mg) : FnOk P w K mg base CX0 1 T.law_cell.a T.law_cell.fd ["script", "k"] (spCell K) := by
  refine T.law_cell.F.ok sc_law_cell (fun vs H Q E h => ?_) (fun cdv A outer s H vs Q E hr h => ?_)
  · obtain ⟨a, ns, k, rfl, _⟩ := h; rfl
  obtain ⟨a, ns, k, rfl, hS, h0, h1, q⟩ := h
  refine ⟨_, (pss_one (ps_ret (pe_ifExp (pt_cmpR op_lt (pv 1) (pe_callB (klen K) (by rfl) T.z_len (by decide +kernel) (pa_cons (pv 0) pa_nil)) (nomark _)) (pe_ix (kixl K) (pv 0) (pv 1) (fun _ _ => rfl)) (pe_op op_add (pe_op op_mul pe_int (pv 1)) (pe_op op_mod (pe_callTy call_int1 (by rfl) T.z_int (by decide +kernel) (pa_cons (pe_callB (ksum K rfl) (by rfl) T.z_sum (by decide +kernel) (pa_cons (pe_slice (kslL K) (pv 0) po_none (po_some pe_int)) pa_nil)) pa_nil)) pe_int))))), ?_⟩
  refine ⟨_, rfl, _, rfl, _, _, rfl, .inl ⟨_, hS, rfl⟩, _, _, rfl, rfl, _, rfl, ite2 (fun c => ?_) (fun c => ?_)⟩
  · have c' := of_decide_eq_true c
    obtain ⟨v, hv, hg⟩ := at_get h0 c'
    obtain ⟨z, _, rfl⟩ := ints_get hg
    exact ⟨_, rfl, _, rfl, _, _, _, _, rfl, rfl, hS, hv, q _ _ (Ex.refl _)⟩
  · refine ⟨_, rfl, _, _, rfl, rfl, .inl ⟨by decide, by decide⟩, _, rfl, _, rfl, _, _, rfl, hS, fun p hp => ?_⟩
    obtain ⟨ms, em⟩ := cutV_ints ns none (some 1)
    rw [em]
    refine ⟨p, ms, rfl, .inl (SqL.of upd_same), .inl ⟨_, rfl, _, _, rfl, rfl, (show (0 : Int) < 1000033 by decide), _, _, rfl, rfl, q _ _ (Ex.new hp)⟩⟩
theorem ok_law_box (T : TA1 K mg) : FnOk P w K mg base CX0 1 T.law_box.a T.law_box.fd ["great"] spBox := by
  refine T.law_box.F.ok sc_law_box (fun vs H Q E h => ?_) (fun cdv A outer s H vs Q E hr h => ?_)
  · obtain ⟨g, rfl, _⟩ := h; rfl
  obtain ⟨g, rfl, q⟩ := h
  refine ⟨_, (pss_one (ps_ret (pe_lst (pa_cons (pe_callB call_abs (by rfl) T.z_abs (by decide +kernel) (pa_cons (pv 0) pa_nil)) (pa_cons (pe_cmpR op_ge (pe_callB call_abs (by rfl) T.z_abs (by decide +kernel) (pa_cons (pv 0) pa_nil)) (pe_op op_pow pe_int pe_int) (nomark _)) (pa_cons (pe_op op_mod (pe_callTy call_int1 (by rfl) T.z_int (by decide +kernel) (pa_cons (pe_callB call_abs (by rfl) T.z_abs (by decide +kernel) (pa_cons (pv 0) pa_nil)) pa_nil)) pe_int) (pa_cons pe_int pa_nil))))))), ?_⟩
  refine ⟨_, rfl, _, rfl, _, rfl, _, rfl, _, _, rfl, rfl, ⟨by decide, by decide, by decide⟩, _, _, rfl, rfl, _, rfl, _, rfl, .inl ⟨_, rfl, _, _, rfl, rfl, (show (0 : Int) < 2147483629 by decide), (by show 4 ≤ sizeLine; decide), fun p hp => ?_⟩⟩
  refine q p _ hp (Ex.new hp) ⟨_, _, _, _, upd_same, ?_, ?_, ?_, by decide, by decide⟩
  · split <;> omega
  · omega
  · omega
theorem fmod_in {a m : Int} (h : 0 < m) : 0 ≤ a % m ∧ a % m < m := by
  exact ⟨Int.emod_nonneg _ (by omega), Int.emod_lt_of_pos _ h⟩
theorem ok_law_take (T : TA1 K mg) : FnOk P w K mg base CX0 1 T.law_take.a T.law_take.fd ["box", "many"] spTake := by
  refine T.law_take.F.ok sc_law_take (fun vs H Q E h => ?_) (fun cdv A outer s H vs Q E hr h => ?_)
  · obtain ⟨b, m, n, rfl, _⟩ := h; rfl
  obtain ⟨b, m, n, rfl, m0, m1, ⟨d, sd, c, f, hb, d0, s0, s1, c0, c1⟩, q⟩ := h
  have hL := SqL.of (K := K) hb
  refine ⟨_, (pss_cut (ps_if (PW.pt (pw_and (pt_val (pe_ix (kixl K) (pv 0) pe_int (fun _ _ => rfl))) (pw_and1 (pt_cmpR op_gt (pe_ix (kixl K) (pv 0) pe_int (fun _ _ => rfl)) pe_int (nomark _))))) (pss_cons (ps_set (i := 2) sc_law_take.nd rfl (Or.inl rfl) (pe_op op_mod (pe_callTy call_int1 (by rfl) T.z_int (by decide +kernel) (pa_cons (pe_ix (kixl K) (pv 0) pe_int (fun _ _ => rfl)) pa_nil)) (pv 1)))
    (pss_cons (ps_asg (pe_op op_fdiv (pe_ix (kixl K) (pv 0) pe_int (fun _ _ => rfl)) (pv 1)) (pg_sub (pv 0) pe_int set_list))
    (pss_one (ps_ret (pv 2))))) pss_nil)
    (pss_cons (ps_asg (pe_op op_add (pe_ix (kixl K) (pv 0) pe_int (fun _ _ => rfl)) pe_int) (pg_sub (pv 0) pe_int set_list))
    (pss_cons (ps_set (i := 3) sc_law_take.nd rfl (Or.inl rfl) (pe_op op_mod (pe_callTy call_int1 (by rfl) T.z_int (by decide +kernel) (pa_cons (pe_op op_pow (pe_op op_add (pe_op op_add (pe_ix (kixl K) (pv 0) pe_int (fun _ _ => rfl)) (pe_op op_mul pe_int (pe_ix (kixl K) (pv 0) pe_int (fun _ _ => rfl)))) pe_int) pe_int) pa_nil)) pe_int))
    (pss_one (ps_ret (pe_op op_mod (pe_callTy call_int1 (by rfl) T.z_int (by decide +kernel) (pa_cons (pe_op op_fdiv (pe_op op_mod (pe_callTy call_int1 (by rfl) T.z_int (by decide +kernel) (pa_cons (pe_op op_pow (pe_op op_add (pe_op op_mul (pv 3) pe_int) (pe_op op_mul pe_int (pe_ix (kixl K) (pv 0) pe_int (fun _ _ => rfl)))) pe_int) pa_nil)) pe_int) pe_int) pa_nil)) (pv 1))))))), ?_⟩
  have mres : ∀ x : Int, 0 ≤ x % m ∧ x % m < m := fun x => fmod_in m0
  have fm : ∀ {a k : Int}, 0 ≤ a → 0 < k → 0 ≤ a % k ∧ a % k < k := fun _ h => fmod_in h
  refine ⟨fun σ' H' => σ' = [some (.ref b), some (.int m), none, none] ∧ H' = H, ?_, ?_⟩
  · refine ⟨_, rfl, _, _, _, _, rfl, rfl, hL, rfl, f, rfl, ?_⟩
    cases f with
    | false => exact ⟨rfl, rfl⟩
    | true =>
      refine ⟨_, rfl, _, _, _, _, rfl, rfl, hL, rfl, _, _, rfl, rfl, _, rfl, ite2 (fun c => ?_) (fun _ => ⟨rfl, rfl⟩)⟩
      refine ⟨_, rfl, _, _, _, _, rfl, rfl, hL, rfl, .inl ⟨_, rfl, _, rfl, _, _, rfl, rfl, m0, ?_⟩⟩
      refine ⟨_, rfl, _, _, _, _, rfl, rfl, hL, rfl, _, rfl, _, _, rfl, rfl, ⟨by omega, by omega⟩, ?_⟩
      refine ⟨_, rfl, b, _, 0, 0, rfl, rfl, hb, rfl, ?_⟩
      refine ⟨_, rfl, q _ _ (mres _).1 (mres _).2 ⟨_, _, _, _, upd_same, ?_, s0, s1, c0, by omega⟩ But.upd⟩
      exact Int.ediv_nonneg d0 (by omega)
  · rintro σ' H' ⟨rfl, rfl⟩
    refine ⟨_, rfl, _, _, _, _, rfl, rfl, hL, rfl, _, _, rfl, rfl, ?_⟩
    refine ⟨_, rfl, b, _, 3, 3, rfl, rfl, hb, rfl, ?_⟩
    have hb2 : upd H' b (.lst [.int d, .bl f, .int sd, .int (c + 1)]) b = some (.lst [.int d, .bl f, .int sd, .int (c + 1)]) := upd_same
    have hL2 := SqL.of (K := K) hb2
    have r1 := @fmod_in ((sd + 15485863 * (c + 1) + 179424673) ^ (5 : Int).toNat) 2147483647 (by decide)
    refine ⟨_, rfl, _, _, _, _, rfl, rfl, hL2, rfl, ?_⟩
    refine ⟨_, rfl, _, _, _, _, rfl, rfl, hL2, rfl, _, _, rfl, rfl, .inl ⟨by decide, by decide⟩, _, _, rfl, rfl, _, _, rfl, rfl, ?_⟩
    refine ⟨_, _, rfl, rfl, ⟨by decide, by decide, by omega⟩, .inl ⟨_, rfl, _, _, rfl, rfl, (show (0 : Int) < 2147483647 by decide), ?_⟩⟩
    refine ⟨_, rfl, _, _, rfl, rfl, .inr ⟨by decide, by decide⟩, ?_⟩
    refine ⟨_, rfl, _, _, _, _, rfl, rfl, hL2, rfl, _, _, rfl, rfl, .inl ⟨by decide, by decide⟩, _, _, rfl, rfl, ?_⟩
    refine ⟨_, _, rfl, rfl, ⟨by decide, by decide, by omega⟩, .inl ⟨_, rfl, _, _, rfl, rfl, (show (0 : Int) < 2147483587 by decide), ?_⟩⟩
    refine ⟨_, _, rfl, rfl, ⟨by decide, by decide⟩, .inl ⟨_, rfl, _, rfl, _, _, rfl, rfl, m0, ?_⟩⟩
    exact q _ _ (mres _).1 (mres _).2 ⟨_, _, _, _, hb2, d0, s0, s1, by omega, by omega⟩ But.upd
section
variable {X : Cx}
def rLenA (K : PySem.W.Frag) : List V → Hp → VK → Prop := fun xs H Q => rLen K xs H Q ∨ ∃ a kvs, xs = [V.ref a] ∧ H a = some (.dK kvs) ∧ Q (.int (kvs.length : Nat)) H
theorem klenA (K : PySem.W.Frag) (h : X.K = K := by rfl) : CallR X (.builtin "len") (rLenA K) := by
  subst h
  intro pins s σ H vs us Q I r h
  rcases h with h | h
  · exact call_len pins s σ H vs us Q I r h
  · exact call_lenD pins s σ H vs us Q I r h
end
/-! ### the law's own sameness -/
theorem none_left {sp : Sp} {f : Addr} {fd : FuncData} {ps : List Str} (no : ∀ vs H Q E, ¬ sp vs H Q E) : FnOk P w K mg base CX0 0 f fd ps sp :=
  ⟨fun vs H Q E h => absurd h (no vs H Q E), fun A outer s H args us vs Q E _ _ _ _ h => absurd h (no vs H Q E)⟩
theorem isi_at {H : Hp} {x : V} {t u : String} {b : Bool} {Q : VK} (ty : TyX K H x (.type t)) (h : kitB t u = some b) (q : Q (.bl b) H) : rIsi K [x, .ty u] H Q :=
  ⟨x, .ty u, _, _, b, rfl, .ty u, ty, kit_ty h, q⟩
def spS (K : PySem.W.Frag) : Nat → Sp
  | 0 => fun _ _ _ _ => False
  | n + 1 => spSame K n
theorem no_given {n : Nat} {v : Nat → V} : given n (fun _ => false) v = [] := by
  unfold given
  rw [List.filter_eq_nil_iff.mpr (by intro a _; decide)]
  rfl
theorem eq_empty {ta : TE} {σ : L2.St} {H : Hp} {xs : List V} (hx : xs = []) (h : EvL ta σ H xs) : Ev (tOp (rEqD K) ta (tLst tNil)) σ H (.bl true) := by
  subst hx
  exact ev_opLL h (el_lst ea_nil (Nat.zero_le _)) fun p q H1 hp hq _ => rv_val fun H2 e2 Q k =>
    ⟨.list [], .list [], .lst (SqL.of (e2 _ _ hp)) .nil, .lst (SqL.of (e2 _ _ hq)) .nil, rfl, rfl, k⟩
theorem same_step (T : TA1 K mg) (n : Nat) (ih : FnOk P w K mg base CX0 n T.law_same.a T.law_same.fd ["told", "due"] (spS K n)) :
    FnOk P w K mg base CX0 (n + 1) T.law_same.a T.law_same.fd ["told", "due"] (spS K (n + 1)) := by
  refine T.law_same.F.ok sc_law_same (fun vs H Q E h => ?_) (fun cdv A outer s H vs Q E hr h => ?_)
  · obtain ⟨x, y, rfl, _⟩ := h; rfl
  obtain ⟨x, y, rfl, hS, q⟩ := h
  refine ⟨_, (pss_cons (ps_if (PW.pt (pw_or (pt_cmpR op_isN (pv 1) pe_non (nomark _)) (pw_or1 (pt_val (pe_callB (kisi K) (by rfl) T.z_isinstance (by decide +kernel) (pa_cons (pv 1) (pa_cons (pe_bltn (v := .ty "bool") rfl T.z_bool (by decide +kernel) rfl) pa_nil))))))) (pss_one (ps_ret (pe_ifExp (pt_cmpR op_isN (pv 1) pe_non (nomark _)) (pe_cmpR op_isN (pv 0) pe_non (nomark _)) (pe_and (pe_callB (kisi K) (by rfl) T.z_isinstance (by decide +kernel) (pa_cons (pv 0) (pa_cons (pe_bltn (v := .ty "bool") rfl T.z_bool (by decide +kernel) rfl) pa_nil))) (pe_one (pe_cmpR op_eq (pe_cmpR op_is_bl (pv 0) pe_bl (nomark _)) (pe_cmpR op_is_bl (pv 1) pe_bl (nomark _)) (nomark _))))))) pss_nil)
    (pss_cons (ps_if (pt_val (pe_callB (kisi K) (by rfl) T.z_isinstance (by decide +kernel) (pa_cons (pv 1) (pa_cons (pe_bltn (v := .ty "int") rfl T.z_int (by decide +kernel) rfl) pa_nil)))) (pss_one (ps_ret (pe_and (pe_callB (kisi K) (by rfl) T.z_isinstance (by decide +kernel) (pa_cons (pv 0) (pa_cons (pe_bltn (v := .ty "int") rfl T.z_int (by decide +kernel) rfl) pa_nil))) (pe_and (pe_not (pe_callB (kisi K) (by rfl) T.z_isinstance (by decide +kernel) (pa_cons (pv 0) (pa_cons (pe_bltn (v := .ty "bool") rfl T.z_bool (by decide +kernel) rfl) pa_nil)))) (pe_one (pe_cmpR op_eq (pe_op op_sub (pe_callTy call_int1 (by rfl) T.z_int (by decide +kernel) (pa_cons (pv 0) pa_nil)) (pv 1)) pe_int (nomark _))))))) pss_nil)
    (pss_cons (ps_if (pt_val (pe_callB (kisi K) (by rfl) T.z_isinstance (by decide +kernel) (pa_cons (pv 1) (pa_cons (pe_bltn (v := .ty "str") rfl T.z_str (by decide +kernel) rfl) pa_nil)))) (pss_one (ps_ret (pe_and (pe_callB (kisi K) (by rfl) T.z_isinstance (by decide +kernel) (pa_cons (pv 0) (pa_cons (pe_bltn (v := .ty "str") rfl T.z_str (by decide +kernel) rfl) pa_nil))) (pe_and (pe_cmpR op_eq (pe_callB (klen K) (by rfl) T.z_len (by decide +kernel) (pa_cons (pv 0) pa_nil)) (pe_callB (klen K) (by rfl) T.z_len (by decide +kernel) (pa_cons (pv 1) pa_nil)) (nomark _)) (pe_one (pe_cmpR (keqD K hr.units) (pe_lc (own := [("k", 2)]) (g := gName 2) (by rfl) sc_law_same.nd (pi_range1 rfl T.z_range (pa_cons (pe_callB (klen K) (by rfl) T.z_len (by decide +kernel) (pa_cons (pv 1) pa_nil)) pa_nil)) (blkOk_by (own := [("k", 2)]) (N := ["told", "due", "k"]) (sc := defScope s_law_same) (by decide +kernel)) (fun _ _ _ _ _ => (pg_name (i := 2) sc_law_same.nd rfl (Or.inl rfl))) (fun _ _ _ _ _ => (pts_one (pt_cmpR op_ne (pe_slice sl_str (pv 0) (po_some (pv 2)) (po_some (pe_op op_add (pv 2) pe_int))) (pe_ix (kix K) (pv 1) (pv 2) (fun _ _ => rfl)) (nomark _)))) (fun _ _ _ _ _ => (pv 2))) (pe_lst pa_nil) (nomark _))))))) pss_nil)
    (pss_cons (ps_if (PW.pt (pw_or (pt_cmpR op_ne (pe_callB (kisi K) (by rfl) T.z_isinstance (by decide +kernel) (pa_cons (pv 0) (pa_cons (pe_bltn (v := .ty "list") rfl T.z_list (by decide +kernel) rfl) pa_nil))) (pe_callB (kisi K) (by rfl) T.z_isinstance (by decide +kernel) (pa_cons (pv 1) (pa_cons (pe_bltn (v := .ty "list") rfl T.z_list (by decide +kernel) rfl) pa_nil))) (nomark _)) (pw_or1 (pt_cmpR op_ne (pe_callB (kisi K) (by rfl) T.z_isinstance (by decide +kernel) (pa_cons (pv 0) (pa_cons (pe_bltn (v := .ty "tuple") rfl T.z_tuple (by decide +kernel) rfl) pa_nil))) (pe_callB (kisi K) (by rfl) T.z_isinstance (by decide +kernel) (pa_cons (pv 1) (pa_cons (pe_bltn (v := .ty "tuple") rfl T.z_tuple (by decide +kernel) rfl) pa_nil))) (nomark _))))) (pss_one (ps_ret pe_bl)) pss_nil)
    (pss_one (ps_ret (pe_and (pe_cmpR op_eq (pe_callB (klenA K) (by rfl) T.z_len (by decide +kernel) (pa_cons (pv 0) pa_nil)) (pe_callB (klenA K) (by rfl) T.z_len (by decide +kernel) (pa_cons (pv 1) pa_nil)) (nomark _)) (pe_one (pe_cmpR (keqD K hr.units) (pe_lc (own := [("k", 2)]) (g := gName 2) (by rfl) sc_law_same.nd (pi_range1 rfl T.z_range (pa_cons (pe_callB (klenA K) (by rfl) T.z_len (by decide +kernel) (pa_cons (pv 1) pa_nil)) pa_nil)) (blkOk_by (own := [("k", 2)]) (N := ["told", "due", "k"]) (sc := defScope s_law_same) (by decide +kernel)) (fun _ _ _ _ _ => (pg_name (i := 2) sc_law_same.nd rfl (Or.inl rfl))) (fun _ _ _ _ _ => (pts_one (pt_not (pt_val (pe_call (ih) hr rfl T.law_same.m T.law_same.F.kp T.law_same.b .nil pass0 (pa_cons (pe_ix (kix K) (pv 0) (pv 2) (fun _ _ => rfl)) (pa_cons (pe_ix (kix K) (pv 1) (pv 2) (fun _ _ => rfl)) pa_nil))))))) (fun _ _ _ _ _ => (pv 2))) (pe_lst pa_nil) (nomark _)))))))))), ?_⟩
  cases hS with
  | non => exact ⟨_, rfl, rfl, _, rfl, iteT (iteT ⟨_, rfl, rfl, _, rfl, iteT ⟨_, rfl, rfl, q _ (Ex.refl _)⟩⟩)⟩
  | bl b =>
    refine ⟨_, rfl, rfl, _, rfl, iteF ⟨_, rfl, _, _, _, _, true, rfl, .ty _, (.base (.bl b)), kit_ty (by decide +kernel), ⟨_, rfl, iteT ⟨_, rfl, rfl, _, rfl, iteF ?_⟩⟩⟩⟩
    refine ⟨_, rfl, _, _, _, _, true, rfl, .ty _, (.base (.bl b)), kit_ty (by decide +kernel), ⟨_, rfl, iteT ⟨_, rfl, _, _, rfl, rfl, _, rfl, _, _, rfl, rfl, rfl, ?_⟩⟩⟩
    rw [decide_eq_true (rfl : V.bl (decide (b = true)) = V.bl (decide (b = true)))]
    exact q _ (Ex.refl _)
  | int i =>
    refine ⟨_, rfl, rfl, _, rfl, iteF ⟨_, rfl, _, _, _, _, false, rfl, .ty _, (.base (.int i)), kit_ty (by decide +kernel), ⟨_, rfl, iteF ?_⟩⟩⟩
    refine ⟨_, rfl, _, _, _, _, true, rfl, .ty _, (.base (.int i)), kit_ty (by decide +kernel), ⟨_, rfl, iteT ?_⟩⟩
    refine ⟨_, rfl, _, _, _, _, true, rfl, .ty _, (.base (.int i)), kit_ty (by decide +kernel), ⟨_, rfl, iteT ?_⟩⟩
    refine ⟨_, rfl, _, _, _, _, false, rfl, .ty _, (.base (.int i)), kit_ty (by decide +kernel), ⟨_, rfl, _, rfl, iteT ?_⟩⟩
    refine ⟨_, rfl, .inl ⟨_, rfl, _, rfl, _, _, rfl, rfl, rfl, ?_⟩⟩
    show Q (V.bl (decide (V.int (i - i) = V.int 0))) H
    rw [Int.sub_self]
    exact q _ (Ex.refl _)
  | str z hz =>
    have hz' : z.length ≤ sizeLine := Nat.le_trans hz (by decide)
    refine ⟨_, rfl, rfl, _, rfl, iteF ⟨_, rfl, _, _, _, _, false, rfl, .ty _, (.base (.str z)), kit_ty (by decide +kernel), ⟨_, rfl, iteF ?_⟩⟩⟩
    refine ⟨_, rfl, _, _, _, _, false, rfl, .ty _, (.base (.str z)), kit_ty (by decide +kernel), ⟨_, rfl, iteF ?_⟩⟩
    refine ⟨_, rfl, _, _, _, _, true, rfl, .ty _, (.base (.str z)), kit_ty (by decide +kernel), ⟨_, rfl, iteT ?_⟩⟩
    refine ⟨_, rfl, _, _, _, _, true, rfl, .ty _, (.base (.str z)), kit_ty (by decide +kernel), ⟨_, rfl, iteT ?_⟩⟩
    refine ⟨_, rfl, _, z.length, rfl, ⟨hz', rfl⟩, _, rfl, _, z.length, rfl, ⟨hz', rfl⟩, rfl, _, rfl, ?_⟩
    rw [if_pos (decide_eq_true rfl)]
    refine eq_empty (no_given (n := (z.length : Int).toNat) (v := fun _ => V.non)) ?_ H (Ex.refl _) Q (fun H2 e2 => q H2 e2)
    refine el_lcR1 (fun _ => false) (fun _ => V.non) ?_ ⟨by omega, by omega⟩ (fun _ => rfl) ?_ (fun _ _ _ _ hf => nomatch hf)
    · exact fun H1 e Q' k => ⟨_, rfl, _, z.length, rfl, ⟨hz', rfl⟩, k H1 (Ex.refl _)⟩
    · intro i H1 e hi
      have hz2 : i < z.cps.toList.length := by
        have e2 : z.cps.toList.length = z.length := Array.length_toList
        omega
      have hat : atI z.cps.toList (i : Int) = some z.cps.toList[i] := atI_nat (List.getElem?_eq_getElem hz2)
      have hc := cut_one (List.getElem?_eq_getElem hz2)
      intro H2 e2 Q2 k2
      refine ⟨_, rfl, _, rfl, _, rfl, _, rfl, _, _, rfl, rfl, _, rfl, z, rfl, hz', _, rfl, _, rfl, .inr (.inr ⟨z, _, _, rfl, rfl, hz', hat, rfl, _, rfl, ?_⟩)⟩
      rw [hc, decide_eq_true rfl]
      exact k2 H2 (Ex.refl _)
  | @lst n a b xs ys h1 h2 hl hl1 all =>
    refine ⟨_, rfl, rfl, _, rfl, iteF ⟨_, rfl, _, _, _, _, false, rfl, .ty _, (tyL h2), kit_ty (by decide +kernel), ⟨_, rfl, iteF ?_⟩⟩⟩
    refine ⟨_, rfl, _, _, _, _, false, rfl, .ty _, (tyL h2), kit_ty (by decide +kernel), ⟨_, rfl, iteF ?_⟩⟩
    refine ⟨_, rfl, _, _, _, _, false, rfl, .ty _, (tyL h2), kit_ty (by decide +kernel), ⟨_, rfl, iteF ?_⟩⟩
    refine ⟨_, rfl, _, _, _, _, true, rfl, .ty _, (tyL h1), kit_ty (by decide +kernel), ⟨_, rfl, _, _, _, _, true, rfl, .ty _, (tyL h2), kit_ty (by decide +kernel), ⟨rfl, _, rfl, iteF ?_⟩⟩⟩
    refine ⟨_, rfl, _, _, _, _, false, rfl, .ty _, (tyL h1), kit_ty (by decide +kernel), ⟨_, rfl, _, _, _, _, false, rfl, .ty _, (tyL h2), kit_ty (by decide +kernel), ⟨rfl, _, rfl, iteF ?_⟩⟩⟩
    refine ⟨_, rfl, .inl ⟨_, xs.length, rfl, .inl ⟨_, h1, rfl⟩, _, rfl, .inl ⟨_, ys.length, rfl, .inl ⟨_, h2, rfl⟩, rfl, _, rfl, ?_⟩⟩⟩
    rw [if_pos (decide_eq_true (by rw [hl]))]
    refine eq_empty (no_given (n := (ys.length : Int).toNat) (v := fun _ => V.non)) ?_ H (Ex.refl _) Q (fun H2 e2 => q H2 e2)
    refine el_lcR1 (fun _ => false) (fun _ => V.non) ?_ ⟨by omega, by omega⟩ (fun _ => rfl) ?_ (fun _ _ _ _ hf => nomatch hf)
    · exact fun H1 e Q' k => ⟨_, rfl, .inl ⟨_, ys.length, rfl, .inl ⟨_, ex_l e h2, rfl⟩, k H1 (Ex.refl _)⟩⟩
    · intro i H1 e hi H2 e2 Q2 k2
      have hy : ys[i]? = some ys[i] := List.getElem?_eq_getElem (by omega)
      have hx : xs[i]? = some xs[i] := List.getElem?_eq_getElem (by omega)
      refine ⟨_, rfl, _, rfl, .inl ⟨_, _, _, _, rfl, rfl, ex_l (e.trans e2) h1, atI_nat hx, _, rfl, _, rfl, .inl ⟨_, _, _, _, rfl, rfl, ex_l (e.trans e2) h2, atI_nat hy, ?_⟩⟩⟩
      exact ⟨_, _, rfl, (all i _ _ hx hy).ex (e.trans e2), fun H3 e3 => ⟨true, rfl, k2 H3 e3⟩⟩
  | @tup n a b xs ys h1 h2 hl hl1 all =>
    refine ⟨_, rfl, rfl, _, rfl, iteF ⟨_, rfl, _, _, _, _, false, rfl, .ty _, (tyT h2), kit_ty (by decide +kernel), ⟨_, rfl, iteF ?_⟩⟩⟩
    refine ⟨_, rfl, _, _, _, _, false, rfl, .ty _, (tyT h2), kit_ty (by decide +kernel), ⟨_, rfl, iteF ?_⟩⟩
    refine ⟨_, rfl, _, _, _, _, false, rfl, .ty _, (tyT h2), kit_ty (by decide +kernel), ⟨_, rfl, iteF ?_⟩⟩
    refine ⟨_, rfl, _, _, _, _, false, rfl, .ty _, (tyT h1), kit_ty (by decide +kernel), ⟨_, rfl, _, _, _, _, false, rfl, .ty _, (tyT h2), kit_ty (by decide +kernel), ⟨rfl, _, rfl, iteF ?_⟩⟩⟩
    refine ⟨_, rfl, _, _, _, _, true, rfl, .ty _, (tyT h1), kit_ty (by decide +kernel), ⟨_, rfl, _, _, _, _, true, rfl, .ty _, (tyT h2), kit_ty (by decide +kernel), ⟨rfl, _, rfl, iteF ?_⟩⟩⟩
    refine ⟨_, rfl, .inl ⟨_, xs.length, rfl, .inr ⟨_, h1, rfl⟩, _, rfl, .inl ⟨_, ys.length, rfl, .inr ⟨_, h2, rfl⟩, rfl, _, rfl, ?_⟩⟩⟩
    rw [if_pos (decide_eq_true (by rw [hl]))]
    refine eq_empty (no_given (n := (ys.length : Int).toNat) (v := fun _ => V.non)) ?_ H (Ex.refl _) Q (fun H2 e2 => q H2 e2)
    refine el_lcR1 (fun _ => false) (fun _ => V.non) ?_ ⟨by omega, by omega⟩ (fun _ => rfl) ?_ (fun _ _ _ _ hf => nomatch hf)
    · exact fun H1 e Q' k => ⟨_, rfl, .inl ⟨_, ys.length, rfl, .inr ⟨_, ex_t e h2, rfl⟩, k H1 (Ex.refl _)⟩⟩
    · intro i H1 e hi H2 e2 Q2 k2
      have hy : ys[i]? = some ys[i] := List.getElem?_eq_getElem (by omega)
      have hx : xs[i]? = some xs[i] := List.getElem?_eq_getElem (by omega)
      refine ⟨_, rfl, _, rfl, .inr (.inl ⟨_, _, _, _, rfl, rfl, ex_t (e.trans e2) h1, atI_nat hx, _, rfl, _, rfl, .inr (.inl ⟨_, _, _, _, rfl, rfl, ex_t (e.trans e2) h2, atI_nat hy, ?_⟩)⟩)⟩
      exact ⟨_, _, rfl, (all i _ _ hx hy).ex (e.trans e2), fun H3 e3 => ⟨true, rfl, k2 H3 e3⟩⟩
  | @dct n a b h1 h2 =>
    have t1 : TyX K H (.ref a) (.type "dict") := .base (.dK h1)
    have t2 : TyX K H (.ref b) (.type "dict") := .base (.dK h2)
    refine ⟨_, rfl, rfl, _, rfl, iteF ⟨_, rfl, _, _, _, _, false, rfl, .ty _, t2, kit_ty (by decide +kernel), ⟨_, rfl, iteF ?_⟩⟩⟩
    refine ⟨_, rfl, _, _, _, _, false, rfl, .ty _, t2, kit_ty (by decide +kernel), ⟨_, rfl, iteF ?_⟩⟩
    refine ⟨_, rfl, _, _, _, _, false, rfl, .ty _, t2, kit_ty (by decide +kernel), ⟨_, rfl, iteF ?_⟩⟩
    refine ⟨_, rfl, _, _, _, _, false, rfl, .ty _, t1, kit_ty (by decide +kernel), ⟨_, rfl, _, _, _, _, false, rfl, .ty _, t2, kit_ty (by decide +kernel), ⟨rfl, _, rfl, iteF ?_⟩⟩⟩
    refine ⟨_, rfl, _, _, _, _, false, rfl, .ty _, t1, kit_ty (by decide +kernel), ⟨_, rfl, _, _, _, _, false, rfl, .ty _, t2, kit_ty (by decide +kernel), ⟨rfl, _, rfl, iteF ?_⟩⟩⟩
    refine ⟨_, rfl, .inr ⟨a, [], rfl, h1, _, rfl, .inr ⟨b, [], rfl, h2, rfl, _, rfl, ?_⟩⟩⟩
    rw [if_pos (decide_eq_true rfl)]
    refine eq_empty (no_given (n := (0 : Int).toNat) (v := fun _ => V.non)) ?_ H (Ex.refl _) Q (fun H2 e2 => q H2 e2)
    refine el_lcR1 (n := 0) (fun _ => false) (fun _ => V.non) ?_ ⟨by omega, by omega⟩ (fun _ => rfl) ?_ (fun _ _ _ _ hf => nomatch hf)
    · exact fun H1 e Q' k => ⟨_, rfl, .inr ⟨b, [], rfl, e _ _ h2, k H1 (Ex.refl _)⟩⟩
    · intro i H1 e hi
      omega
theorem ok_same (T : TA1 K mg) : ∀ n, FnOk P w K mg base CX0 n T.law_same.a T.law_same.fd ["told", "due"] (spS K n)
  | 0 => none_left fun _ _ _ _ h => h
  | n + 1 => same_step T n (ok_same T n)
theorem ok_law_same (T : TA1 K mg) : FnOk P w K mg base CX0 9 T.law_same.a T.law_same.fd ["told", "due"] (spSame K 8) := ok_same T 9
end
end L2.U


set_option Elab.async false
set_option linter.all false
set_option maxRecDepth 100000
set_option maxHeartbeats 4000000
namespace L2.U
open PySem PySem.Spec PyProof.Rows Evl
abbrev s_many_raised : Stmt := top 20
theorem sc_many_raised : FnScope ["count", "sizes"] ["count", "sizes"] (defScope s_many_raised) := ⟨rfl, rfl, rfl, by decide +kernel, rfl, by decide +kernel, by decide +kernel⟩
abbrev s_raised_of : Stmt := top 21
theorem sc_raised_of : FnScope ["rank", "wires", "sizes"] ["rank", "wires", "sizes"] (defScope s_raised_of) := ⟨rfl, rfl, rfl, by decide +kernel, rfl, by decide +kernel, by decide +kernel⟩
abbrev s_raised_rank : Stmt := top 22
theorem sc_raised_rank : FnScope ["rounds", "wires"] ["rounds", "wires"] (defScope s_raised_rank) := ⟨rfl, rfl, rfl, by decide +kernel, rfl, by decide +kernel, by decide +kernel⟩
abbrev s_answers_of : Stmt := top 23
theorem sc_answers_of : FnScope ["rounds", "wires", "answers", "left", "chosen"] ["rounds", "wires"] (defScope s_answers_of) := ⟨rfl, rfl, rfl, by decide +kernel, rfl, by decide +kernel, by decide +kernel⟩
abbrev s_many : Stmt := top 24
theorem sc_many : FnScope ["count", "sizes", "gap", "result", "left", "size"] ["count", "sizes", "gap"] (defScope s_many) := ⟨rfl, rfl, rfl, by decide +kernel, rfl, by decide +kernel, by decide +kernel⟩
abbrev s_rounds_at : Stmt := top 25
theorem sc_rounds_at : FnScope ["rank", "kinds", "sizes", "gap", "rounds", "left", "at", "size", "further", "chosen"] ["rank", "kinds", "sizes", "gap"] (defScope s_rounds_at) := ⟨rfl, rfl, rfl, by decide +kernel, rfl, by decide +kernel, by decide +kernel⟩
abbrev s_rank_at : Stmt := top 26
theorem sc_rank_at : FnScope ["rounds", "kinds", "gap", "rank", "left", "at", "chosen"] ["rounds", "kinds", "gap"] (defScope s_rank_at) := ⟨rfl, rfl, rfl, by decide +kernel, rfl, by decide +kernel, by decide +kernel⟩
abbrev s_many_chosen : Stmt := top 27
theorem sc_many_chosen : FnScope ["kinds", "chosen"] ["kinds", "chosen"] (defScope s_many_chosen) := ⟨rfl, rfl, rfl, by decide +kernel, rfl, by decide +kernel, by decide +kernel⟩
abbrev s_behind : Stmt := top 28
theorem sc_behind : FnScope ["kinds", "chosen", "gap", "kind"] ["kinds", "chosen", "gap"] (defScope s_behind) := ⟨rfl, rfl, rfl, by decide +kernel, rfl, by decide +kernel, by decide +kernel⟩
abbrev s_chosen_at : Stmt := top 29
theorem sc_chosen_at : FnScope ["rank", "kinds", "size", "chosen", "at", "kind", "with_kind"] ["rank", "kinds", "size"] (defScope s_chosen_at) := ⟨rfl, rfl, rfl, by decide +kernel, rfl, by decide +kernel, by decide +kernel⟩
abbrev s_chosen_rank : Stmt := top 30
theorem sc_chosen_rank : FnScope ["chosen", "kinds", "rank", "found", "at", "kind"] ["chosen", "kinds"] (defScope s_chosen_rank) := ⟨rfl, rfl, rfl, by decide +kernel, rfl, by decide +kernel, by decide +kernel⟩
abbrev s_check_count : Stmt := top 31
theorem sc_check_count : FnScope ["count"] ["count"] (defScope s_check_count) := ⟨rfl, rfl, rfl, by decide +kernel, rfl, by decide +kernel, by decide +kernel⟩
abbrev s_check_kinds : Stmt := top 32
theorem sc_check_kinds : FnScope ["kinds"] ["kinds"] (defScope s_check_kinds) := ⟨rfl, rfl, rfl, by decide +kernel, rfl, by decide +kernel, by decide +kernel⟩
abbrev s_check_sizes : Stmt := top 33
theorem sc_check_sizes : FnScope ["sizes"] ["sizes"] (defScope s_check_sizes) := ⟨rfl, rfl, rfl, by decide +kernel, rfl, by decide +kernel, by decide +kernel⟩
abbrev s_check_rank : Stmt := top 34
theorem sc_check_rank : FnScope ["rank", "kinds", "sizes", "gap"] ["rank", "kinds", "sizes", "gap"] (defScope s_check_rank) := ⟨rfl, rfl, rfl, by decide +kernel, rfl, by decide +kernel, by decide +kernel⟩
abbrev s_check_rounds : Stmt := top 35
theorem sc_check_rounds : FnScope ["rounds", "kinds", "gap"] ["rounds", "kinds", "gap"] (defScope s_check_rounds) := ⟨rfl, rfl, rfl, by decide +kernel, rfl, by decide +kernel, by decide +kernel⟩
abbrev s_are_rounds : Stmt := top 36
theorem sc_are_rounds : FnScope ["value", "kinds", "gap", "left", "chosen"] ["value", "kinds", "gap"] (defScope s_are_rounds) := ⟨rfl, rfl, rfl, by decide +kernel, rfl, by decide +kernel, by decide +kernel⟩
abbrev s_is_chosen : Stmt := top 37
theorem sc_is_chosen : FnScope ["value", "kinds", "kind"] ["value", "kinds"] (defScope s_is_chosen) := ⟨rfl, rfl, rfl, by decide +kernel, rfl, by decide +kernel, by decide +kernel⟩
abbrev s_is_ascending : Stmt := top 8
theorem sc_is_ascending : FnScope ["numbers", "at"] ["numbers"] (defScope s_is_ascending) := ⟨rfl, rfl, rfl, by decide +kernel, rfl, by decide +kernel, by decide +kernel⟩
abbrev s_are_between : Stmt := top 6
theorem sc_are_between : FnScope ["values", "low", "high", "value"] ["values", "low", "high"] (defScope s_are_between) := ⟨rfl, rfl, rfl, by decide +kernel, rfl, by decide +kernel, by decide +kernel⟩
abbrev s_init_InvalidNumber : Stmt := inClass (top 11) 0
theorem sc_init_InvalidNumber : FnScope ["self", "given"] ["self", "given"] (defScope s_init_InvalidNumber) := ⟨rfl, rfl, rfl, by decide +kernel, rfl, by decide +kernel, by decide +kernel⟩
abbrev s_init_InvalidKinds : Stmt := inClass (top 12) 0
theorem sc_init_InvalidKinds : FnScope ["self", "given"] ["self", "given"] (defScope s_init_InvalidKinds) := ⟨rfl, rfl, rfl, by decide +kernel, rfl, by decide +kernel, by decide +kernel⟩
abbrev s_init_InvalidSizes : Stmt := inClass (top 13) 0
theorem sc_init_InvalidSizes : FnScope ["self", "given"] ["self", "given"] (defScope s_init_InvalidSizes) := ⟨rfl, rfl, rfl, by decide +kernel, rfl, by decide +kernel, by decide +kernel⟩
abbrev s_init_InvalidRank : Stmt := inClass (top 14) 0
theorem sc_init_InvalidRank : FnScope ["self", "given"] ["self", "given"] (defScope s_init_InvalidRank) := ⟨rfl, rfl, rfl, by decide +kernel, rfl, by decide +kernel, by decide +kernel⟩
abbrev s_init_InvalidRounds : Stmt := inClass (top 15) 0
theorem sc_init_InvalidRounds : FnScope ["self", "given"] ["self", "given"] (defScope s_init_InvalidRounds) := ⟨rfl, rfl, rfl, by decide +kernel, rfl, by decide +kernel, by decide +kernel⟩
structure TA2 (K : PySem.W.Frag) (mg : Str → Option Value) extends TA1 K mg where
  many_raised : DefAt K mg "many_raised" s_many_raised ["count", "sizes"]
  raised_of : DefAt K mg "raised_of" s_raised_of ["rank", "wires", "sizes"]
  raised_rank : DefAt K mg "raised_rank" s_raised_rank ["rounds", "wires"]
  answers_of : DefAt K mg "answers_of" s_answers_of ["rounds", "wires"]
  many : DefAt K mg "_many" s_many ["count", "sizes", "gap"]
  rounds_at : DefAt K mg "rounds_at" s_rounds_at ["rank", "kinds", "sizes", "gap"]
  rank_at : DefAt K mg "rank_at" s_rank_at ["rounds", "kinds", "gap"]
  many_chosen : DefAt K mg "_many_chosen" s_many_chosen ["kinds", "chosen"]
  behind : DefAt K mg "behind" s_behind ["kinds", "chosen", "gap"]
  chosen_at : DefAt K mg "_chosen_at" s_chosen_at ["rank", "kinds", "size"]
  chosen_rank : DefAt K mg "_chosen_rank" s_chosen_rank ["chosen", "kinds"]
  check_count : DefAt K mg "_check_count" s_check_count ["count"]
  check_kinds : DefAt K mg "_check_kinds" s_check_kinds ["kinds"]
  check_sizes : DefAt K mg "_check_sizes" s_check_sizes ["sizes"]
  check_rank : DefAt K mg "_check_rank" s_check_rank ["rank", "kinds", "sizes", "gap"]
  check_rounds : DefAt K mg "_check_rounds" s_check_rounds ["rounds", "kinds", "gap"]
  are_rounds : DefAt K mg "_are_rounds" s_are_rounds ["value", "kinds", "gap"]
  is_chosen : DefAt K mg "_is_chosen" s_is_chosen ["value", "kinds"]
  is_ascending : DefAt K mg "is_ascending" s_is_ascending ["numbers"]
  are_between : DefAt K mg "are_between" s_are_between ["values", "low", "high"]
  InvalidNumber : ErrAt K mg "InvalidNumber" "InvalidNumber.__init__" s_init_InvalidNumber "given"
  InvalidKinds : ErrAt K mg "InvalidKinds" "InvalidKinds.__init__" s_init_InvalidKinds "given"
  InvalidSizes : ErrAt K mg "InvalidSizes" "InvalidSizes.__init__" s_init_InvalidSizes "given"
  InvalidRank : ErrAt K mg "InvalidRank" "InvalidRank.__init__" s_init_InvalidRank "given"
  InvalidRounds : ErrAt K mg "InvalidRounds" "InvalidRounds.__init__" s_init_InvalidRounds "given"
  t_MOST_KINDS : Tok
  c_MOST_KINDS : mg "MOST_KINDS" = some (.int 16 t_MOST_KINDS)
  t_LAST_KIND : Tok
  c_LAST_KIND : mg "LAST_KIND" = some (.int 64 t_LAST_KIND)
  t_ON_WIRES : Tok
  c_ON_WIRES : mg "ON_WIRES" = some (.int 1 t_ON_WIRES)
  c_comb : mg "comb" = some (.builtin "math.comb")
  z_enumerate : mg "enumerate" = none
section
variable {P : Program} {w : World} {K : PySem.W.Frag} {mg : Str → Option Value} {base : Heap}
theorem ok_init_InvalidNumber (T : ErrAt K mg "InvalidNumber" "InvalidNumber.__init__" s_init_InvalidNumber "given") : FnOk P w K mg base CX0 1 T.fI T.fd ["self", "given"] (spInit T.C "given") := by
  refine T.F.ok sc_init_InvalidNumber (fun vs H Q E h => ?_) (fun cdv A outer s H vs Q E hr h => ?_)
  · obtain ⟨a, y, rfl, _⟩ := h; rfl
  obtain ⟨a, y, rfl, ha, q⟩ := h
  exact ⟨_, pss_one (ps_ost (pv 0) (pv 1)), _, rfl, _, rfl, a, T.C, rfl, T.T, T.nf, .inl ⟨ha, fun d hd nd => q d hd nd⟩⟩
theorem ok_init_InvalidKinds (T : ErrAt K mg "InvalidKinds" "InvalidKinds.__init__" s_init_InvalidKinds "given") : FnOk P w K mg base CX0 1 T.fI T.fd ["self", "given"] (spInit T.C "given") := by
  refine T.F.ok sc_init_InvalidKinds (fun vs H Q E h => ?_) (fun cdv A outer s H vs Q E hr h => ?_)
  · obtain ⟨a, y, rfl, _⟩ := h; rfl
  obtain ⟨a, y, rfl, ha, q⟩ := h
  exact ⟨_, pss_one (ps_ost (pv 0) (pv 1)), _, rfl, _, rfl, a, T.C, rfl, T.T, T.nf, .inl ⟨ha, fun d hd nd => q d hd nd⟩⟩
theorem ok_init_InvalidSizes (T : ErrAt K mg "InvalidSizes" "InvalidSizes.__init__" s_init_InvalidSizes "given") : FnOk P w K mg base CX0 1 T.fI T.fd ["self", "given"] (spInit T.C "given") := by
  refine T.F.ok sc_init_InvalidSizes (fun vs H Q E h => ?_) (fun cdv A outer s H vs Q E hr h => ?_)
  · obtain ⟨a, y, rfl, _⟩ := h; rfl
  obtain ⟨a, y, rfl, ha, q⟩ := h
  exact ⟨_, pss_one (ps_ost (pv 0) (pv 1)), _, rfl, _, rfl, a, T.C, rfl, T.T, T.nf, .inl ⟨ha, fun d hd nd => q d hd nd⟩⟩
theorem ok_init_InvalidRank (T : ErrAt K mg "InvalidRank" "InvalidRank.__init__" s_init_InvalidRank "given") : FnOk P w K mg base CX0 1 T.fI T.fd ["self", "given"] (spInit T.C "given") := by
  refine T.F.ok sc_init_InvalidRank (fun vs H Q E h => ?_) (fun cdv A outer s H vs Q E hr h => ?_)
  · obtain ⟨a, y, rfl, _⟩ := h; rfl
  obtain ⟨a, y, rfl, ha, q⟩ := h
  exact ⟨_, pss_one (ps_ost (pv 0) (pv 1)), _, rfl, _, rfl, a, T.C, rfl, T.T, T.nf, .inl ⟨ha, fun d hd nd => q d hd nd⟩⟩
theorem ok_init_InvalidRounds (T : ErrAt K mg "InvalidRounds" "InvalidRounds.__init__" s_init_InvalidRounds "given") : FnOk P w K mg base CX0 1 T.fI T.fd ["self", "given"] (spInit T.C "given") := by
  refine T.F.ok sc_init_InvalidRounds (fun vs H Q E h => ?_) (fun cdv A outer s H vs Q E hr h => ?_)
  · obtain ⟨a, y, rfl, _⟩ := h; rfl
  obtain ⟨a, y, rfl, ha, q⟩ := h
  exact ⟨_, pss_one (ps_ost (pv 0) (pv 1)), _, rfl, _, rfl, a, T.C, rfl, T.T, T.nf, .inl ⟨ha, fun d hd nd => q d hd nd⟩⟩
/-- a check of any data: it lets what is right, else raises the error of C with the very value -/
def spChkD (K : PySem.W.Frag) (C : Addr) (okD : PyData → Bool) : Sp := fun vs H Q E => ∃ x d n ok, vs = [x] ∧ RdA K ok H n x d ∧ (okD d = true → ∀ H', Ex H H' → Q .non H') ∧
  (okD d = false → ∀ e H', Ex H H' → H' e = some (.xd [("given", x)]) → E (.ref C) (some e) H')
theorem betw_int {lo hi : Int} {ok : Addr → Prop} {H : Hp} {n : Nat} {x : V} {d : PyData} (h : Rd K ok H n x d) (c : betwD lo hi d = true) : ∃ i, x = .int i ∧ d = .int i ∧ lo ≤ i ∧ i ≤ hi := by
  cases h with
  | int i => exact ⟨i, rfl, rfl, of_decide_eq_true c⟩
  | non => cases c
  | bl _ => cases c
  | str _ _ _ => cases c
  | lst _ _ _ _ _ => cases c
  | tup _ _ _ _ _ => cases c
theorem given_all {n : Nat} {v : Nat → V} : given n (fun _ => true) v = (List.range n).map v := by
  unfold given
  rw [List.filter_eq_self.mpr (by intro a _; rfl)]
theorem el_lcT {σ : L2.St} {H : Hp} {a : Addr} {xs : List V} {tl te : TE} {t : TT} {j : Nat} {vs : List Nat} (f : Nat → Bool) (v : Nat → V) (h : Ev tl σ H (.ref a)) (hx : SqT K H a xs) (hz : xs.length ≤ 40000)
    (hw : ∀ x, wipe ((wipe σ vs).set j (some x)) vs = wipe σ vs) (ht : ∀ (i : Nat) (x : V) H1, Ex H H1 → xs[i]? = some x → EvT t ((wipe σ vs).set j (some x)) H1 (f i))
    (he : ∀ (i : Nat) (x : V) H1, Ex H H1 → xs[i]? = some x → f i = true → Ev te ((wipe σ vs).set j (some x)) H1 (v i)) : EvL (tLc (iTup K tl) (gName j) t te vs) σ H (given xs.length f v) := by
  intro H0 e Q q
  refine h H0 e _ fun H1 e1 => ?_
  have e01 := e.trans e1
  refine ⟨a, rfl, ⟨xs, ex_t e01 hx⟩, fun Dl hD => lc_tup (xs := xs) (Cw H1 f v Dl) ⟨hD, Ex.new hD, upd_same⟩ (fun i H' _ p => ex_t (e01.trans p.2.1) hx) ?_ ?_⟩
  · intro i x H' hi p
    have hlt := (List.getElem?_eq_some_iff.mp hi).1
    exact ⟨hw x, cw_turn p (by omega) (ht i x H1 e01 hi) (fun hf => he i x H1 e01 hi hf)⟩
  · exact fun H' p => q Dl H' (fresh_back e1 p.1) (e1.trans p.2.1) p.2.2
theorem el_lcL {σ : L2.St} {H : Hp} {a : Addr} {xs : List V} {tl te : TE} {t : TT} {j : Nat} {vs : List Nat} (f : Nat → Bool) (v : Nat → V) (h : Ev tl σ H (.ref a)) (hx : SqL K H a xs) (hz : xs.length ≤ 40000)
    (hw : ∀ x, wipe ((wipe σ vs).set j (some x)) vs = wipe σ vs) (ht : ∀ (i : Nat) (x : V) H1, Ex H H1 → xs[i]? = some x → EvT t ((wipe σ vs).set j (some x)) H1 (f i))
    (he : ∀ (i : Nat) (x : V) H1, Ex H H1 → xs[i]? = some x → f i = true → Ev te ((wipe σ vs).set j (some x)) H1 (v i)) : EvL (tLc (iList K tl) (gName j) t te vs) σ H (given xs.length f v) := by
  intro H0 e Q q
  refine h H0 e _ fun H1 e1 => ?_
  have e01 := e.trans e1
  refine ⟨a, rfl, ⟨xs, ex_l e01 hx⟩, fun Dl hD => lc_list (xs := xs) (Cw H1 f v Dl) ⟨hD, Ex.new hD, upd_same⟩ (fun i H' _ p => ex_l (e01.trans p.2.1) hx) ?_ ?_⟩
  · intro i x H' hi p
    have hlt := (List.getElem?_eq_some_iff.mp hi).1
    exact ⟨hw x, cw_turn p (by omega) (ht i x H1 e01 hi) (fun hf => he i x H1 e01 hi hf)⟩
  · exact fun H' p => q Dl H' (fresh_back e1 p.1) (e1.trans p.2.1) p.2.2
theorem el_lcS {σ : L2.St} {H : Hp} {a : Addr} {xs : List V} {tl te : TE} {t : TT} {j : Nat} {vs : List Nat} (f : Nat → Bool) (v : Nat → V) (h : Ev tl σ H (.ref a)) (hx : SqL K H a xs ∨ SqT K H a xs) (hz : xs.length ≤ 40000)
    (hw : ∀ x, wipe ((wipe σ vs).set j (some x)) vs = wipe σ vs) (ht : ∀ (i : Nat) (x : V) H1, Ex H H1 → xs[i]? = some x → EvT t ((wipe σ vs).set j (some x)) H1 (f i))
    (he : ∀ (i : Nat) (x : V) H1, Ex H H1 → xs[i]? = some x → f i = true → Ev te ((wipe σ vs).set j (some x)) H1 (v i)) : EvL (tLc (iSeq K tl) (gName j) t te vs) σ H (given xs.length f v) := by
  intro H0 e Q q
  rcases hx with hx | hx
  · exact .inl (el_lcL f v h hx hz hw ht he H0 e Q q)
  · exact .inr (el_lcT f v h hx hz hw ht he H0 e Q q)
/-! ### all of a list or tuple are ints from lo on -/
def itemsD : PyData → List PyData
  | .list ds => ds
  | .tuple ds => ds
  | _ => []
/-- an address of a list or a tuple that holds data -/
theorem rd_seq {ok : Addr → Prop} {H : Hp} {n : Nat} {x : V} {d : PyData} (h : Rd K ok H n x d) (s : isSeq d = true) : ∃ a xs, x = .ref a ∧ (SqL K H a xs ∧ d = .list (itemsD d) ∨ SqT K H a xs ∧ d = .tuple (itemsD d)) ∧ xs.length = (itemsD d).length ∧ xs.length ≤ 1000 ∧
    ∀ (i : Nat) (x : V) (e : PyData), xs[i]? = some x → (itemsD d)[i]? = some e → Rd K ok H (n - 1) x e := by
  cases h with
  | lst h ha hl hz all => exact ⟨_, _, rfl, .inl ⟨SqL.of h, rfl⟩, hl, by omega, all⟩
  | tup h ha hl hz all => exact ⟨_, _, rfl, .inr ⟨h, rfl⟩, hl, by omega, all⟩
  | non => cases s
  | bl _ => cases s
  | int _ => cases s
  | str _ _ _ => cases s
def spAreFrom (K : PySem.W.Frag) : Sp := fun vs H Q _ => ∃ x d n ok lo, vs = [x, .int lo] ∧ Rd K ok H n x d ∧ isSeq d = true ∧ ∀ H', Ex H H' → Q (.bl ((itemsD d).all (fromD lo))) H'
theorem ok_are_from (T : TA2 K mg) : FnOk P w K mg base CX0 3 T.are_from.a T.are_from.fd ["values", "low"] (spAreFrom K) := by
  refine T.are_from.F.ok sc_are_from (fun vs H Q E h => ?_) (fun cdv A outer s H vs Q E hr h => ?_)
  · obtain ⟨x, d, n, ok, lo, rfl, _⟩ := h; rfl
  obtain ⟨x, d, n, ok, lo, rfl, h, sq, q⟩ := h
  obtain ⟨a, xs, rfl, hs, hl, hz, all⟩ := rd_seq h sq
  refine ⟨_, (pss_one (ps_ret (pe_callB (kall K rfl) (by rfl) T.z_all (by decide +kernel) (pa_cons (pe_lc (own := [("value", 2)]) (g := gName 2) (by rfl) sc_are_from.nd (kpis K (pv 0)) (blkOk_by (own := [("value", 2)]) (N := ["values", "low", "value"]) (sc := defScope s_are_from) (by decide +kernel)) (fun _ _ _ _ _ => (pg_name (i := 2) sc_are_from.nd rfl (Or.inl rfl))) (fun _ _ _ _ _ => pts_nil) (fun _ _ _ _ _ => (pe_call (ok_is_from T.toTA1) (hr.mono (by decide)) rfl T.is_from.m T.is_from.F.kp T.is_from.b .nil pass0 (pa_cons (pv 2) (pa_cons (pv 1) pa_nil))))) pa_nil)))), ?_⟩
  have fin : ∀ (p : Addr) (H2 : Hp), H p = none → Ex H H2 → H2 p = some (.lst (given xs.length (fun _ => true) (fun i => .bl (fromD lo ((itemsD d).getD i .none))))) → ∃ (a : Addr) (bs : List Bool), [V.ref p] = [V.ref a] ∧ SqL K H2 a (bs.map V.bl) ∧ Q (.bl (bs.all id)) H2 := by
    intro p H2 _ e2 h2
    rw [given_all] at h2
    refine ⟨p, (itemsD d).map (fromD lo), rfl, ?_, ?_⟩
    · have e : (List.range xs.length).map (fun i => V.bl (fromD lo ((itemsD d).getD i .none))) = ((itemsD d).map (fromD lo)).map V.bl := by
        apply List.ext_getElem?
        intro i
        rw [List.getElem?_map, List.getElem?_map, List.getElem?_map]
        by_cases c : i < xs.length
        · rw [List.getElem?_range c, List.getElem?_eq_getElem (show i < (itemsD d).length by omega)]
          simp [List.getD_eq_getElem?_getD, List.getElem?_eq_getElem (show i < (itemsD d).length by omega)]
        · rw [List.getElem?_eq_none (by rw [List.length_range]; omega), List.getElem?_eq_none (show (itemsD d).length ≤ i by omega)]
          rfl
      rw [e] at h2
      exact SqL.of h2
    · rw [List.all_map]
      exact q H2 e2
  have he : ∀ (i : Nat) (x : V) (H1 : Hp), Ex H H1 → xs[i]? = some x → Ev (tCall (spIsFrom K) [] E0 (tCons (tVar 2) (tCons (tVar 1) tNil))) ((wipe (start ["values", "low", "value"] [.ref a, .int lo]) [2]).set 2 (some x)) H1 (.bl (fromD lo ((itemsD d).getD i .none))) := by
    intro i x H1 e1 hx H2 e2 Q2 k2
    have hi := (List.getElem?_eq_some_iff.mp hx).1
    have hd : (itemsD d)[i]? = some ((itemsD d)[i]'(by omega)) := List.getElem?_eq_getElem _
    have r := (all i x _ hx hd).ex (e1.trans e2)
    have g : (itemsD d).getD i .none = (itemsD d)[i]'(by omega) := by rw [List.getD_eq_getElem?_getD, hd]; rfl
    refine ⟨_, rfl, _, rfl, _, _, rfl, r.dat, fun b h1 h2 => ?_⟩
    rw [rd_from r h1 h2, ← g]
    exact k2 H2 (Ex.refl _)
  rcases hs with ⟨hs, _⟩ | ⟨hs, _⟩
  · exact .inl ((el_lcL (t := tYes) (σ := start ["values", "low", "value"] [.ref a, .int lo]) (vs := [2]) (fun _ => true) (fun i => .bl (fromD lo ((itemsD d).getD i .none))) (ev_var rfl) hs (by omega) (fun _ => rfl) (fun i x H1 _ _ H2 _ Q k => k H2 (Ex.refl _)) (fun i x H1 e1 hx _ => he i x H1 e1 hx)) H (Ex.refl _) (fun v H2 => rAll K [v] H2 Q) fin)
  · exact .inr ((el_lcT (t := tYes) (σ := start ["values", "low", "value"] [.ref a, .int lo]) (vs := [2]) (fun _ => true) (fun i => .bl (fromD lo ((itemsD d).getD i .none))) (ev_var rfl) hs (by omega) (fun _ => rfl) (fun i x H1 _ _ H2 _ Q k => k H2 (Ex.refl _)) (fun i x H1 e1 hx _ => he i x H1 e1 hx)) H (Ex.refl _) (fun v H2 => rAll K [v] H2 Q) fin)

def spAreBetween (K : PySem.W.Frag) : Sp := fun vs H Q _ => ∃ x d n ok lo hi, vs = [x, .int lo, .int hi] ∧ Rd K ok H n x d ∧ isSeq d = true ∧ ∀ H', Ex H H' → Q (.bl ((itemsD d).all (betwD lo hi))) H'
theorem ok_are_between (T : TA2 K mg) : FnOk P w K mg base CX0 3 T.are_between.a T.are_between.fd ["values", "low", "high"] (spAreBetween K) := by
  refine T.are_between.F.ok sc_are_between (fun vs H Q E h => ?_) (fun cdv A outer s H vs Q E hr h => ?_)
  · obtain ⟨x, d, n, ok, lo, hi, rfl, _⟩ := h; rfl
  obtain ⟨x, d, n, ok, lo, hi, rfl, h, sq, q⟩ := h
  obtain ⟨a, xs, rfl, hs, hl, hz, all⟩ := rd_seq h sq
  refine ⟨_, (pss_one (ps_ret (pe_callB (kall K rfl) (by rfl) T.z_all (by decide +kernel) (pa_cons (pe_lc (own := [("value", 3)]) (g := gName 3) (by rfl) sc_are_between.nd (kpis K (pv 0)) (blkOk_by (own := [("value", 3)]) (N := ["values", "low", "high", "value"]) (sc := defScope s_are_between) (by decide +kernel)) (fun _ _ _ _ _ => (pg_name (i := 3) sc_are_between.nd rfl (Or.inl rfl))) (fun _ _ _ _ _ => pts_nil) (fun _ _ _ _ _ => (pe_call (ok_is_between T.toTA1) (hr.mono (by decide)) rfl T.is_between.m T.is_between.F.kp T.is_between.b .nil pass0 (pa_cons (pv 3) (pa_cons (pv 1) (pa_cons (pv 2) pa_nil)))))) pa_nil)))), ?_⟩
  have fin : ∀ (p : Addr) (H2 : Hp), H p = none → Ex H H2 → H2 p = some (.lst (given xs.length (fun _ => true) (fun i => .bl (betwD lo hi ((itemsD d).getD i .none))))) → ∃ (a : Addr) (bs : List Bool), [V.ref p] = [V.ref a] ∧ SqL K H2 a (bs.map V.bl) ∧ Q (.bl (bs.all id)) H2 := by
    intro p H2 _ e2 h2
    rw [given_all] at h2
    refine ⟨p, (itemsD d).map (betwD lo hi), rfl, ?_, ?_⟩
    · have e : (List.range xs.length).map (fun i => V.bl (betwD lo hi ((itemsD d).getD i .none))) = ((itemsD d).map (betwD lo hi)).map V.bl := by
        apply List.ext_getElem?
        intro i
        rw [List.getElem?_map, List.getElem?_map, List.getElem?_map]
        by_cases c : i < xs.length
        · rw [List.getElem?_range c, List.getElem?_eq_getElem (show i < (itemsD d).length by omega)]
          simp [List.getD_eq_getElem?_getD, List.getElem?_eq_getElem (show i < (itemsD d).length by omega)]
        · rw [List.getElem?_eq_none (by rw [List.length_range]; omega), List.getElem?_eq_none (show (itemsD d).length ≤ i by omega)]
          rfl
      rw [e] at h2
      exact SqL.of h2
    · rw [List.all_map]
      exact q H2 e2
  have he : ∀ (i : Nat) (x : V) (H1 : Hp), Ex H H1 → xs[i]? = some x → Ev (tCall (spIsBetween K) [] E0 (tCons (tVar 3) (tCons (tVar 1) (tCons (tVar 2) tNil)))) ((wipe (start ["values", "low", "high", "value"] [.ref a, .int lo, .int hi]) [3]).set 3 (some x)) H1 (.bl (betwD lo hi ((itemsD d).getD i .none))) := by
    intro i x H1 e1 hx H2 e2 Q2 k2
    have hi := (List.getElem?_eq_some_iff.mp hx).1
    have hd : (itemsD d)[i]? = some ((itemsD d)[i]'(by omega)) := List.getElem?_eq_getElem _
    have r := (all i x _ hx hd).ex (e1.trans e2)
    have g : (itemsD d).getD i .none = (itemsD d)[i]'(by omega) := by rw [List.getD_eq_getElem?_getD, hd]; rfl
    refine ⟨_, rfl, _, rfl, _, rfl, _, _, _, rfl, r.dat, fun b h1 h2 => ?_⟩
    rw [rd_betw r h1 h2, ← g]
    exact k2 H2 (Ex.refl _)
  rcases hs with ⟨hs, _⟩ | ⟨hs, _⟩
  · exact .inl ((el_lcL (t := tYes) (σ := start ["values", "low", "high", "value"] [.ref a, .int lo, .int hi]) (vs := [3]) (fun _ => true) (fun i => .bl (betwD lo hi ((itemsD d).getD i .none))) (ev_var rfl) hs (by omega) (fun _ => rfl) (fun i x H1 _ _ H2 _ Q k => k H2 (Ex.refl _)) (fun i x H1 e1 hx _ => he i x H1 e1 hx)) H (Ex.refl _) (fun v H2 => rAll K [v] H2 Q) fin)
  · exact .inr ((el_lcT (t := tYes) (σ := start ["values", "low", "high", "value"] [.ref a, .int lo, .int hi]) (vs := [3]) (fun _ => true) (fun i => .bl (betwD lo hi ((itemsD d).getD i .none))) (ev_var rfl) hs (by omega) (fun _ => rfl) (fun i x H1 _ _ H2 _ Q k => k H2 (Ex.refl _)) (fun i x H1 e1 hx _ => he i x H1 e1 hx)) H (Ex.refl _) (fun v H2 => rAll K [v] H2 Q) fin)

def num16 (d : PyData) : Bool := betwD 0 16 d
theorem ok_check_count (T : TA2 K mg) : FnOk P w K mg base (L2.CX P w) 4 T.check_count.a T.check_count.fd ["count"] (spChkD K T.InvalidNumber.C num16) := by
  refine T.check_count.F.okX sc_check_count (fun vs H Q E h => ?_) (fun cdv A outer s H vs Q E hr h => ?_)
  · obtain ⟨x, d, n, ok, rfl, _⟩ := h; rfl
  obtain ⟨x, d, n, ok, rfl, h, q1, q2⟩ := h
  refine ⟨_, (pss_one (ps_if (pt_not (pt_val (pe_call (ok_is_between T.toTA1) (hr.mono (by decide)) rfl T.is_between.m T.is_between.F.kp T.is_between.b .nil pass0 (pa_cons (pv 0) (pa_cons pe_int (pa_cons (pe_glob (v := .int 16) rfl T.c_MOST_KINDS ⟨_, rfl⟩) pa_nil)))))) (pss_one (ps_raise rfl (takes_of rfl rfl rfl rfl) (pmk_oex T.InvalidNumber.T T.InvalidNumber.iC T.InvalidNumber.tI (ok_init_InvalidNumber T.InvalidNumber) (hr.mono (by decide)) T.InvalidNumber.b .nil pass0 rfl T.InvalidNumber.gC (by exact (pa_cons (pv 0) pa_nil))))) pss_nil)), ?_⟩
  refine ⟨_, rfl, _, _, _, rfl, h.dat, fun b h1 h2 => ⟨b, rfl, ?_⟩⟩
  have hb := rda_betw h h1 h2
  subst hb
  cases c : betwD 0 16 d with
  | true => exact q1 c _ (Ex.refl _)
  | false => exact ⟨_, rfl, (by show 1 ≤ 1000; decide), fun a ha => raised ha fun e H' ex he => q2 c e H' ex he⟩
def sizesD (d : PyData) : Bool := isSeq d && decide ((itemsD d).length ≤ 16) && (itemsD d).all (fromD 1)
theorem ok_check_sizes (T : TA2 K mg) : FnOk P w K mg base (L2.CX P w) 5 T.check_sizes.a T.check_sizes.fd ["sizes"] (spChkD K T.InvalidSizes.C sizesD) := by
  refine T.check_sizes.F.okX sc_check_sizes (fun vs H Q E h => ?_) (fun cdv A outer s H vs Q E hr h => ?_)
  · obtain ⟨x, d, n, ok, rfl, _⟩ := h; rfl
  obtain ⟨x, d, n, ok, rfl, h, q1, q2⟩ := h
  refine ⟨_, (pss_one (ps_if (PW.pt (pw_or (pt_not (pt_val (pe_call (ok_is_list T.toTA1) (hr.mono (by decide)) rfl T.is_list.m T.is_list.F.kp T.is_list.b .nil pass0 (pa_cons (pv 0) pa_nil)))) (pw_or (pt_cmpR op_gt (pe_callB (klen K) (by rfl) T.z_len (by decide +kernel) (pa_cons (pv 0) pa_nil)) (pe_glob (v := .int 16) rfl T.c_MOST_KINDS ⟨_, rfl⟩) (nomark _)) (pw_or1 (pt_not (pt_val (pe_call (ok_are_from T) (hr.mono (by decide)) rfl T.are_from.m T.are_from.F.kp T.are_from.b .nil pass0 (pa_cons (pv 0) (pa_cons pe_int pa_nil))))))))) (pss_one (ps_raise rfl (takes_of rfl rfl rfl rfl) (pmk_oex T.InvalidSizes.T T.InvalidSizes.iC T.InvalidSizes.tI (ok_init_InvalidSizes T.InvalidSizes) (hr.mono (by decide)) T.InvalidSizes.b .nil pass0 rfl T.InvalidSizes.gC (by exact (pa_cons (pv 0) pa_nil))))) pss_nil)), ?_⟩
  refine ⟨_, rfl, x, d, n, ok, rfl, h, fun H1 e1 => ⟨isSeq d, rfl, ?_⟩⟩
  cases sq : isSeq d with
  | false => exact iteT (iteT ⟨_, rfl, (by show 1 ≤ 1000; decide), fun a ha => raised ha fun e H' ex he => q2 (by unfold sizesD; rw [sq]; rfl) e H' (e1.trans ex) he⟩)
  | true =>
  have h1 := (h.rd sq).ex e1
  obtain ⟨a, xs, rfl, hs, hl, hz, all⟩ := rd_seq h1 sq
  refine iteF ⟨_, rfl, _, _, rfl, (hs.imp (fun z => ⟨_, z.1, rfl⟩) (fun z => ⟨_, z.1, rfl⟩)), _, _, rfl, rfl, _, rfl, ite2 (fun c => ?_) (fun c => ?_)⟩
  · have c' := of_decide_eq_true c
    exact iteT ⟨_, rfl, (by show 1 ≤ 1000; decide), fun a ha => raised ha fun e H' ex he => q2 (by unfold sizesD; rw [sq, decide_eq_false (by omega)]; rfl) e H' (e1.trans ex) he⟩
  · have c' := of_decide_eq_false (Bool.eq_false_iff.mpr c)
    refine ⟨_, rfl, .ref a, d, n, ok, 1, rfl, h1, sq, fun H2 e2 => ⟨_, rfl, ?_⟩⟩
    cases al : (itemsD d).all (fromD 1) with
    | false => exact iteT ⟨_, rfl, (by show 1 ≤ 1000; decide), fun a ha => raised ha fun e H' ex he => q2 (by unfold sizesD; rw [sq, al, Bool.and_false]) e H' ((e1.trans e2).trans ex) he⟩
    | true => exact iteF (q1 (by unfold sizesD; rw [sq, al, decide_eq_true (by omega)]; rfl) _ (e1.trans e2))
/-- all are ints, and each is less than the next one -/
def ltD (ds : List PyData) (i : Nat) : Bool := match ds[i]?, ds[i + 1]? with
  | some (.int a), some (.int b) => decide (a < b)
  | _, _ => false
def ascD (ds : List PyData) : Bool := (List.range (ds.length - 1)).all (ltD ds)
def kindsD (d : PyData) : Bool := isSeq d && decide ((itemsD d).length ≤ 16) && (itemsD d).all (betwD 1 64) && ascD (itemsD d)
def spAsc (K : PySem.W.Frag) : Sp := fun vs H Q _ => ∃ x d n ok, vs = [x] ∧ Rd K ok H n x d ∧ isSeq d = true ∧ (itemsD d).all (betwD 1 64) = true ∧ ∀ H', Ex H H' → Q (.bl (ascD (itemsD d))) H'
theorem tyes {σ : L2.St} {H : Hp} {F G : Hp → Prop} (h : F H) : tYes σ H (fun b H3 => if b = true then F H3 else G H3) := by
  show if true = true then F H else G H
  rw [if_pos rfl]
  exact h
theorem rix {H : Hp} {a : Addr} {xs : List V} {i : Int} {v : V} {Q : VK} (h : SqL K H a xs ∨ SqT K H a xs) (ha : atI xs i = some v) (q : Q v H) : rIx K (.ref a) (.int i) H Q := by
  rcases h with h | h
  · exact .inl ⟨a, xs, i, v, rfl, rfl, h, ha, q⟩
  · exact .inr (.inl ⟨a, xs, i, v, rfl, rfl, h, ha, q⟩)
theorem ok_is_ascending (T : TA2 K mg) : FnOk P w K mg base CX0 3 T.is_ascending.a T.is_ascending.fd ["numbers"] (spAsc K) := by
  refine T.is_ascending.F.ok sc_is_ascending (fun vs H Q E h => ?_) (fun cdv A outer s H vs Q E hr h => ?_)
  · obtain ⟨x, d, n, ok, rfl, _⟩ := h; rfl
  obtain ⟨x, d, n, ok, rfl, h, sq, al, q⟩ := h
  obtain ⟨a, xs, rfl, hs, hl, hz, all⟩ := rd_seq h sq
  refine ⟨_, (pss_one (ps_ret (pe_callB (kall K rfl) (by rfl) T.z_all (by decide +kernel) (pa_cons (pe_lc (own := [("at", 1)]) (g := gName 1) (by rfl) sc_is_ascending.nd (pi_range1 rfl T.z_range (pa_cons (pe_op op_sub (pe_callB (klen K) (by rfl) T.z_len (by decide +kernel) (pa_cons (pv 0) pa_nil)) pe_int) pa_nil)) (blkOk_by (own := [("at", 1)]) (N := ["numbers", "at"]) (sc := defScope s_is_ascending) (by decide +kernel)) (fun _ _ _ _ _ => (pg_name (i := 1) sc_is_ascending.nd rfl (Or.inl rfl))) (fun _ _ _ _ _ => pts_nil) (fun _ _ _ _ _ => (pe_cmpR op_lt (pe_ix (kix K) (pv 0) (pv 1) (fun _ _ => rfl)) (pe_ix (kix K) (pv 0) (pe_op op_add (pv 1) pe_int) (fun _ _ => rfl)) (nomark _)))) pa_nil)))), ?_⟩
  have key : ∀ i, i < xs.length → ∃ z, xs[i]? = some (.int z) ∧ (itemsD d)[i]? = some (.int z) := fun i hi => by
    have hd : (itemsD d)[i]? = some ((itemsD d)[i]'(by omega)) := List.getElem?_eq_getElem _
    have r := all i _ _ (List.getElem?_eq_getElem hi) hd
    obtain ⟨z, e1, e2, _⟩ := betw_int r (List.all_eq_true.mp al _ (List.getElem_mem _))
    exact ⟨z, by rw [List.getElem?_eq_getElem hi, e1], by rw [hd, e2]⟩
  have sq2 : SqL K H a xs ∨ SqT K H a xs := hs.imp (fun z => z.1) (fun z => z.1)
  refine ⟨_, rfl, _, _, rfl, (hs.imp (fun z => ⟨_, z.1, rfl⟩) (fun z => ⟨_, z.1, rfl⟩)), _, _, rfl, rfl, _, rfl, by omega, by omega, fun D hD => lc_range (fun i H' => Ex H H' ∧ H' D = some (.lst ((List.range i).map fun k => V.bl (ltD (itemsD d) k)))) ⟨Ex.new hD, upd_same⟩ ?_ ?_⟩
  · rintro i H' hi ⟨e, hd⟩
    obtain ⟨z1, x1, d1⟩ := key i (by omega)
    obtain ⟨z2, x2, d2⟩ := key (i + 1) (by omega)
    refine ⟨rfl, tyes ?_⟩
    have s3 : SqL K H' a xs ∨ SqT K H' a xs := sq2.imp (ex_l e) (ex_t e)
    refine ⟨_, rfl, _, rfl, rix s3 (at_of (show (0 + (i : Int)) = ((i : Nat) : Int) by omega) x1) ⟨_, rfl, _, rfl, _, _, rfl, rfl, rix s3 (at_of (show (0 + (i : Int)) + 1 = ((i + 1 : Nat) : Int) by omega) x2) ⟨z1, z2, rfl, rfl, ?_⟩⟩⟩
    refine ⟨_, hd, small1000 (by rw [List.length_map, List.length_range]; omega), e.mut hD, ?_⟩
    rw [upd_same, List.range_succ, List.map_append]
    have : ltD (itemsD d) i = decide (z1 < z2) := by unfold ltD; rw [d1, d2]
    rw [List.map_singleton, this]
  · rintro H' ⟨e, hd⟩
    refine ⟨D, (List.range ((xs.length : Int) - 1).toNat).map (ltD (itemsD d)), rfl, SqL.of (by rw [List.map_map]; exact hd), ?_⟩
    have e2 : (((List.range ((xs.length : Int) - 1).toNat).map (ltD (itemsD d))).all id) = ascD (itemsD d) := by
      unfold ascD
      rw [List.all_map, show ((xs.length : Int) - 1).toNat = (itemsD d).length - 1 by omega]
      rfl
    rw [e2]
    exact q _ e
theorem ok_check_kinds (T : TA2 K mg) : FnOk P w K mg base (L2.CX P w) 5 T.check_kinds.a T.check_kinds.fd ["kinds"] (spChkD K T.InvalidKinds.C kindsD) := by
  refine T.check_kinds.F.okX sc_check_kinds (fun vs H Q E h => ?_) (fun cdv A outer s H vs Q E hr h => ?_)
  · obtain ⟨x, d, n, ok, rfl, _⟩ := h; rfl
  obtain ⟨x, d, n, ok, rfl, h, q1, q2⟩ := h
  refine ⟨_, (pss_cons (ps_if (PW.pt (pw_or (pt_not (pt_val (pe_call (ok_is_list T.toTA1) (hr.mono (by decide)) rfl T.is_list.m T.is_list.F.kp T.is_list.b .nil pass0 (pa_cons (pv 0) pa_nil)))) (pw_or1 (pt_cmpR op_gt (pe_callB (klen K) (by rfl) T.z_len (by decide +kernel) (pa_cons (pv 0) pa_nil)) (pe_glob (v := .int 16) rfl T.c_MOST_KINDS ⟨_, rfl⟩) (nomark _))))) (pss_one (ps_raise rfl (takes_of rfl rfl rfl rfl) (pmk_oex T.InvalidKinds.T T.InvalidKinds.iC T.InvalidKinds.tI (ok_init_InvalidKinds T.InvalidKinds) (hr.mono (by decide)) T.InvalidKinds.b .nil pass0 rfl T.InvalidKinds.gC (by exact (pa_cons (pv 0) pa_nil))))) pss_nil)
    (pss_one (ps_if (PW.pt (pw_or (pt_not (pt_val (pe_call (ok_are_between T) (hr.mono (by decide)) rfl T.are_between.m T.are_between.F.kp T.are_between.b .nil pass0 (pa_cons (pv 0) (pa_cons pe_int (pa_cons (pe_glob (v := .int 64) rfl T.c_LAST_KIND ⟨_, rfl⟩) pa_nil)))))) (pw_or1 (pt_not (pt_val (pe_call (ok_is_ascending T) (hr.mono (by decide)) rfl T.is_ascending.m T.is_ascending.F.kp T.is_ascending.b .nil pass0 (pa_cons (pv 0) pa_nil))))))) (pss_one (ps_raise rfl (takes_of rfl rfl rfl rfl) (pmk_oex T.InvalidKinds.T T.InvalidKinds.iC T.InvalidKinds.tI (ok_init_InvalidKinds T.InvalidKinds) (hr.mono (by decide)) T.InvalidKinds.b .nil pass0 rfl T.InvalidKinds.gC (by exact (pa_cons (pv 0) pa_nil))))) pss_nil))), ?_⟩
  refine ⟨_, rfl, x, d, n, ok, rfl, h, fun H1 e1 => ⟨isSeq d, rfl, ?_⟩⟩
  cases sq : isSeq d with
  | false => exact iteT (iteT ⟨_, rfl, (by show 1 ≤ 1000; decide), fun a ha => raised ha fun e H' ex he => q2 (by unfold kindsD; rw [sq]; rfl) e H' (e1.trans ex) he⟩)
  | true =>
  have h1 := (h.rd sq).ex e1
  obtain ⟨a, xs, rfl, hs, hl, hz, all⟩ := rd_seq h1 sq
  refine iteF ⟨_, rfl, _, _, rfl, (hs.imp (fun z => ⟨_, z.1, rfl⟩) (fun z => ⟨_, z.1, rfl⟩)), _, _, rfl, rfl, _, rfl, ite2 (fun c => ?_) (fun c => ?_)⟩
  · have c' := of_decide_eq_true c
    exact ⟨_, rfl, (by show 1 ≤ 1000; decide), fun a ha => raised ha fun e H' ex he => q2 (by unfold kindsD; rw [sq, decide_eq_false (by omega)]; rfl) e H' (e1.trans ex) he⟩
  · have c' := of_decide_eq_false (Bool.eq_false_iff.mpr c)
    refine ⟨_, rfl, .ref a, d, n, ok, 1, 64, rfl, h1, sq, fun H2 e2 => ⟨_, rfl, ?_⟩⟩
    cases al : (itemsD d).all (betwD 1 64) with
    | false => exact iteT (iteT ⟨_, rfl, (by show 1 ≤ 1000; decide), fun a ha => raised ha fun e H' ex he => q2 (by unfold kindsD; rw [sq, al, Bool.and_false, Bool.false_and]) e H' ((e1.trans e2).trans ex) he⟩)
    | true =>
      refine iteF ⟨_, rfl, .ref a, d, n, ok, rfl, h1.ex e2, sq, al, fun H3 e3 => ⟨_, rfl, ?_⟩⟩
      cases ac : ascD (itemsD d) with
      | false => exact iteT ⟨_, rfl, (by show 1 ≤ 1000; decide), fun a ha => raised ha fun e H' ex he => q2 (by unfold kindsD; rw [sq, al, ac, Bool.and_false]) e H' (((e1.trans e2).trans e3).trans ex) he⟩
      | true => exact iteF (q1 (by unfold kindsD; rw [sq, al, ac, decide_eq_true (by omega)]; rfl) _ ((e1.trans e2).trans e3))
end
end L2.U


set_option Elab.async false
set_option linter.all false
set_option maxRecDepth 100000
set_option maxHeartbeats 4000000
namespace L2.U
open PySem PySem.Spec PyProof.Rows Evl
section
variable {P : Program} {w : World} {K : PySem.W.Frag} {mg : Str → Option Value} {base : Heap}
theorem comb_lt {a b : Int} (ha : 0 ≤ a) (h : a ≤ 64) (hb : 0 ≤ b) (hb2 : b ≤ 64) : 0 ≤ PySem.W.mcComb a b ∧ PySem.W.mcComb a b < 2 ^ 64 := by
  have key : ∀ n : Fin 65, ∀ k : Fin 65, 0 ≤ PySem.W.mcComb (n.val : Int) (k.val : Int) ∧ PySem.W.mcComb (n.val : Int) (k.val : Int) < 2 ^ 64 := by decide +kernel
  have := key ⟨a.toNat, by omega⟩ ⟨b.toNat, by omega⟩
  simpa [Int.toNat_of_nonneg ha, Int.toNat_of_nonneg hb] using this

def manyI : Int → List Int → Int → Int
  | _, [], _ => 1
  | c, s :: r, g => if c < s then 0 else PySem.W.mcComb c s * manyI (c - s - g) r g
theorem manyI_nil {c g : Int} : manyI c [] g = 1 := rfl
theorem manyI_cons {c s g : Int} {r : List Int} : manyI c (s :: r) g = if c < s then 0 else PySem.W.mcComb c s * manyI (c - s - g) r g := rfl
def spMany (K : PySem.W.Frag) : Sp := fun vs H Q _ => ∃ (c g : Int) (a : Addr) (ns : List Int), vs = [.int c, .ref a, .int g] ∧ (SqL K H a (ns.map V.int) ∨ SqT K H a (ns.map V.int)) ∧ c ≤ 64 ∧ 0 ≤ g ∧ (∀ z ∈ ns, 1 ≤ z) ∧ Q (.int (manyI c ns g)) H
theorem ok_many (T : TA2 K mg) : FnOk P w K mg base CX0 1 T.many.a T.many.fd ["count", "sizes", "gap"] (spMany K) := by
  refine T.many.F.ok sc_many (fun vs H Q E h => ?_) (fun cdv A outer s H vs Q E hr h => ?_)
  · obtain ⟨c, g, a, ns, rfl, _⟩ := h; rfl
  obtain ⟨c, g, a, ns, rfl, hs, hc, hg, hn, q⟩ := h
  refine ⟨_, (pss_cons (ps_set (i := 3) sc_many.nd rfl (Or.inl rfl) pe_int)
    (pss_cons (ps_set (i := 4) sc_many.nd rfl (Or.inl rfl) (pv 0))
    (pss_cons (ps_for PassesOwn.never rfl (kpis K (pv 1)) (pg_name (i := 5) sc_many.nd rfl (Or.inl rfl)) (pss_cons (ps_if (pt_cmpR op_gt (pv 5) (pv 4) (nomark _)) (pss_one (ps_ret pe_int)) pss_nil)
    (pss_cons (ps_aug (i := 3) sc_many.nd rfl (Or.inl rfl) (pe_callBfun cr_comb rfl T.c_comb (pa_cons (pv 4) (pa_cons (pv 5) pa_nil))) ip_mulC)
    (pss_one (ps_set (i := 4) sc_many.nd rfl (Or.inl rfl) (pe_op op_sub (pe_op op_sub (pv 4) (pv 5)) (pv 2)))))))
    (pss_one (ps_ret (pv 3)))))), ?_⟩
  refine ⟨_, rfl, ?_⟩
  have turn : ∀ (i : Nat) (x : V) (σ : L2.St), (ns.map V.int)[i]? = some x → (∃ R l v, σ = [some (.int c), some (.ref a), some (.int g), some (.int R), some (.int l), v] ∧ l ≤ 64 ∧ manyI c ns g = R * manyI l (ns.drop i) g) →
      gName 5 x σ H fun σ2 H3 => tSeq (tIfS (tTest (tOp (rI0 fun i j => .bl (decide (j < i))) (tVar 5) (tVar 4))) (tRet (tC (.int 0))) tNext) (tSeq (tAug 3 (tCB rComb (tCons (tVar 4) (tCons (tVar 5) tNil))) fun x y H Q => ∃ i j, x = .int i ∧ y = .int j ∧ CMul i j ∧ Q (.int (i * j)) H)
        (tAsg (tOp (rI0 fun i j => .int (i - j)) (tOp (rI0 fun i j => .int (i - j)) (tVar 4) (tVar 5)) (tVar 2)) (gName 4)))
        { nx := fun σ' H' => H' = H ∧ ∃ R l v, σ' = [some (.int c), some (.ref a), some (.int g), some (.int R), some (.int l), v] ∧ l ≤ 64 ∧ manyI c ns g = R * manyI l (ns.drop (i + 1)) g, rt := Q } σ2 H3 := by
    rintro i x σ hx ⟨R, l, v, rfl, hl, hm⟩
    obtain ⟨z, hz, rfl⟩ := ints_get hx
    obtain ⟨hi, ez⟩ := List.getElem?_eq_some_iff.mp hz
    have h1 := hn z (List.mem_of_getElem? hz)
    rw [← List.getElem_cons_drop hi, ez] at hm
    rw [manyI_cons] at hm
    refine ⟨_, rfl, _, rfl, _, _, rfl, rfl, _, rfl, ite2 (fun cc => ?_) (fun cc => ?_)⟩
    · rw [if_pos (of_decide_eq_true cc), Int.mul_zero] at hm
      rw [hm] at q
      exact q
    · have c' : ¬ l < z := of_decide_eq_false (Bool.eq_false_iff.mpr cc)
      rw [if_neg c', ← Int.mul_assoc] at hm
      have hc := @comb_lt l z (by omega) (by omega) (by omega) (by omega)
      refine ⟨_, rfl, _, rfl, _, rfl, _, _, rfl, by omega, by omega, by omega, by omega, _, _, rfl, rfl, .inr ⟨by omega, hc.2⟩, ?_⟩
      exact ⟨_, rfl, _, rfl, _, _, rfl, rfl, _, rfl, _, _, rfl, rfl, rfl, _, _, _, rfl, by omega, hm⟩
  have fin : ∀ σ H', (H' = H ∧ ∃ R l v, σ = [some (.int c), some (.ref a), some (.int g), some (.int R), some (.int l), v] ∧ l ≤ 64 ∧ manyI c ns g = R * manyI l (ns.drop (ns.map V.int).length) g) → tRet (tVar 3) { nx := fun _ H' => Q .non H', rt := Q } σ H' := by
    rintro σ H' ⟨rfl, R, l, v, rfl, _, hm⟩
    rw [List.length_map, List.drop_length] at hm
    rw [manyI_nil, Int.mul_one] at hm
    rw [hm] at q
    exact ⟨_, rfl, q⟩
  have one : manyI c ns g = 1 * manyI c (ns.drop 0) g := by rw [Int.one_mul]; rfl
  rcases hs with hs2 | hs2
  · exact .inl ⟨_, rfl, a, rfl, ⟨_, hs2⟩, for_list (xs := ns.map V.int) (fun i σ H' => H' = H ∧ ∃ R l v, σ = [some (.int c), some (.ref a), some (.int g), some (.int R), some (.int l), v] ∧ l ≤ 64 ∧ manyI c ns g = R * manyI l (ns.drop i) g) ⟨rfl, _, _, _, rfl, hc, one⟩
      (fun i σ H' _ ⟨e, _⟩ => e ▸ hs2) (fun i x σ H' hx ⟨e, hv⟩ => e ▸ turn i x σ hx hv) fin⟩
  · exact .inr ⟨_, rfl, a, rfl, ⟨_, hs2⟩, for_tup (xs := ns.map V.int) (fun i σ H' => H' = H ∧ ∃ R l v, σ = [some (.int c), some (.ref a), some (.int g), some (.int R), some (.int l), v] ∧ l ≤ 64 ∧ manyI c ns g = R * manyI l (ns.drop i) g) ⟨rfl, _, _, _, rfl, hc, one⟩
      (fun i σ H' _ ⟨e, _⟩ => e ▸ hs2) (fun i x σ H' hx ⟨e, hv⟩ => e ▸ turn i x σ hx hv) fin⟩
theorem filter_take {α : Type} {f : α → Bool} {xs : List α} {i : Nat} {x : α} (h : xs[i]? = some x) : (xs.take (i + 1)).filter f = (xs.take i).filter f ++ (if f x = true then [x] else []) := by
  rw [List.take_add_one, h, List.filter_append]
  congr 1
  show List.filter f [x] = _
  rw [List.filter_cons]
  split <;> rfl
theorem filter_take_le {α : Type} {f : α → Bool} {xs : List α} {i : Nat} : ((xs.take i).filter f).length ≤ xs.length :=
  Nat.le_trans (List.length_filter_le _ _) (List.length_take_le' _ _)
theorem flat_ints {ns : List Int} : (ns.map V.int).all flatV = true := by
  rw [List.all_map, List.all_eq_true]
  intro x _
  rfl
theorem inV_ints {i : Int} {ns : List Int} : inV (.int i) (ns.map V.int) = decide (i ∈ ns) := by
  unfold inV
  induction ns with
  | nil => rfl
  | cons n r ih =>
    rw [List.map_cons, List.any_cons, ih]
    have e : eqV (.int n) (.int i) = decide (i = n) := by
      show (n == i) = decide (i = n)
      rw [Bool.beq_eq_decide_eq]
      exact decide_eq_decide.mpr eq_comm
    rw [e]
    by_cases c : i = n <;> simp [c]
theorem cut_from {xs : List V} {k : Nat} : cutV xs (some (k : Int)) none = xs.drop k := by
  unfold cutV
  rw [HT.sIx_none, HT.sIx_nat, List.take_of_length_le (by rw [List.length_drop]; exact Nat.le_refl _)]
  by_cases c : k ≤ xs.length
  · rw [Nat.min_eq_left c]
  · rw [Nat.min_eq_right (by omega), List.drop_length, List.drop_eq_nil_of_le (by omega)]
def behindI (ks cs : List Int) (g : Int) : List Int := (ks.filter fun z => !decide (z ∈ cs)).drop g.toNat
def spBehind (K : PySem.W.Frag) : Sp := fun vs H Q _ => ∃ (a b : Addr) (ks cs : List Int) (g : Int), vs = [.ref a, .ref b, .int g] ∧ (SqL K H a (ks.map V.int) ∨ SqT K H a (ks.map V.int)) ∧ SqT K H b (cs.map V.int) ∧ ks.length ≤ 64 ∧ (g = 0 ∨ g = 1) ∧
  ∀ (p : Addr) H', Ex H H' → H p = none → H' p = some (.lst ((behindI ks cs g).map V.int)) → Q (.ref p) H'
theorem ok_behind (T : TA2 K mg) : FnOk P w K mg base CX0 1 T.behind.a T.behind.fd ["kinds", "chosen", "gap"] (spBehind K) := by
  refine T.behind.F.ok sc_behind (fun vs H Q E h => ?_) (fun cdv A outer s H vs Q E hr h => ?_)
  · obtain ⟨a, b, ks, cs, g, rfl, _⟩ := h; rfl
  obtain ⟨a, b, ks, cs, g, rfl, hs, hb, hk, hg, q⟩ := h
  refine ⟨_, (pss_one (ps_ret (pe_slice (kslL K) (pe_lc (own := [("kind", 3)]) (g := gName 3) (by rfl) sc_behind.nd (kpis K (pv 0)) (blkOk_by (own := [("kind", 3)]) (N := ["kinds", "chosen", "gap", "kind"]) (sc := defScope s_behind) (by decide +kernel)) (fun _ _ _ _ _ => (pg_name (i := 3) sc_behind.nd rfl (Or.inl rfl))) (fun _ _ _ _ _ => (pts_one (pt_cmpR (knotin K) (pv 3) (pv 1) (by rfl)))) (fun _ _ _ _ _ => (pv 3))) (po_some (pv 2)) po_none))), ?_⟩
  have turn : ∀ (D : Addr) (hD : H D = none) (i : Nat) (x : V) (H' : Hp), (ks.map V.int)[i]? = some x → (Ex H H' ∧ H' D = some (.lst (((ks.take i).filter fun z => !decide (z ∈ cs)).map V.int))) →
      gName 3 x (wipe (start ["kinds", "chosen", "gap", "kind"] [.ref a, .ref b, .int g]) [3]) H' fun σ2 H2 => wipe σ2 [3] = wipe (start ["kinds", "chosen", "gap", "kind"] [.ref a, .ref b, .int g]) [3] ∧ tTest (tOp (rIn K true) (tVar 3) (tVar 1)) σ2 H2 fun bb H3 =>
        if bb = true then tVar 3 σ2 H3 fun y H4 => ∃ acc, H4 D = some (.lst acc) ∧ acc.length < sizeLine ∧ (fun i H' => Ex H H' ∧ H' D = some (.lst (((ks.take i).filter fun z => !decide (z ∈ cs)).map V.int))) (i + 1) (upd H4 D (.lst (acc ++ [y]))) else (fun i H' => Ex H H' ∧ H' D = some (.lst (((ks.take i).filter fun z => !decide (z ∈ cs)).map V.int))) (i + 1) H3 := by
    rintro D hD i x H' hx ⟨e, hd⟩
    obtain ⟨z, hz, rfl⟩ := ints_get hx
    have hi := (List.getElem?_eq_some_iff.mp hz).1
    have lz : ((ks.take i).filter fun z => !decide (z ∈ cs)).length ≤ ks.length := Nat.le_trans (List.length_filter_le _ _) (by rw [List.length_take]; omega)
    refine ⟨rfl, _, rfl, _, rfl, _, _, rfl, .inr (ex_t e hb), rfl, flat_ints, _, rfl, ?_⟩
    rw [if_pos rfl, inV_ints]
    by_cases m : z ∈ cs
    · rw [decide_eq_true m]
      refine iteF ⟨e, ?_⟩
      rw [hd, filter_take hz]
      simp [m]
    · rw [decide_eq_false m]
      refine iteT ⟨_, rfl, _, hd, small1000 (by rw [List.length_map]; omega), e.mut hD, ?_⟩
      rw [upd_same, filter_take hz]
      simp [m]
  have fin : ∀ (D : Addr) (H' : Hp), H D = none → (Ex H H' ∧ H' D = some (.lst (((ks.take (ks.map V.int).length).filter fun z => !decide (z ∈ cs)).map V.int))) → (tPart (tVar 2) (start ["kinds", "chosen", "gap", "kind"] [.ref a, .ref b, .int g]) H' fun l H2 => tNoPart (start ["kinds", "chosen", "gap", "kind"] [.ref a, .ref b, .int g]) H2 fun u H3 => rSlL K (.ref D) l u H3 Q) := by
    rintro D H' hD ⟨e, hd⟩
    rw [List.length_map, List.take_length] at hd
    refine ⟨_, rfl, g, rfl, D, _, rfl, SqL.of hd, fun p hp => q p _ (e.trans (Ex.new hp)) (fresh_back e hp) ?_⟩
    rw [upd_same]
    obtain ⟨k, rfl⟩ : ∃ k : Nat, g = (k : Int) := ⟨g.toNat, by omega⟩
    rw [cut_from, ← List.map_drop]
    rfl
  rcases hs with hs2 | hs2
  · exact .inl ⟨_, rfl, a, rfl, ⟨_, hs2⟩, fun D hD => lc_list (xs := ks.map V.int) (fun i H' => Ex H H' ∧ H' D = some (.lst (((ks.take i).filter fun z => !decide (z ∈ cs)).map V.int))) ⟨Ex.new hD, upd_same⟩ (fun i H' _ p => ex_l p.1 hs2) (fun i x H' hx p => turn D hD i x H' hx p) (fun H' p => fin D H' hD p)⟩
  · exact .inr ⟨_, rfl, a, rfl, ⟨_, hs2⟩, fun D hD => lc_tup (xs := ks.map V.int) (fun i H' => Ex H H' ∧ H' D = some (.lst (((ks.take i).filter fun z => !decide (z ∈ cs)).map V.int))) ⟨Ex.new hD, upd_same⟩ (fun i H' _ p => ex_t p.1 hs2) (fun i x H' hx p => turn D hD i x H' hx p) (fun H' p => fin D H' hD p)⟩
end
end L2.U


set_option Elab.async false
set_option linter.all false
set_option maxRecDepth 100000
set_option maxHeartbeats 4000000
namespace L2.U
open PySem PySem.Spec PyProof.Rows Evl
section
variable {P : Program} {w : World} {K : PySem.W.Frag} {mg : Str → Option Value} {base : Heap}
theorem shaped0 : SeqAt.shaped (PyData.tuple []) = true := by
  simp only [SeqAt.shaped, PyData.canLay0, PyData.canLayAll0, PyData.depth, PyData.depthAll]
  decide
def inD (ks : List Int) : PyData → Bool
  | .int i => decide (i ∈ ks)
  | _ => false
def chosenD (ks : List Int) : PyData → Bool
  | .tuple ds => !ds.isEmpty && ds.all (inD ks) && ascD ds
  | _ => false
def spChosen (K : PySem.W.Frag) : Sp := fun vs H Q _ => ∃ (x : V) (d : PyData) (n : Nat) (ok : Addr → Prop) (b : Addr) (ks : List Int), vs = [x, .ref b] ∧ Rd K ok H n x d ∧ n ≤ 20 ∧ SqL K H b (ks.map V.int) ∧ (∀ k ∈ ks, 1 ≤ k ∧ k ≤ 64) ∧ ∀ H', Ex H H' → Q (.bl (chosenD ks d)) H'
theorem ok_is_chosen (T : TA2 K mg) : FnOk P w K mg base CX0 4 T.is_chosen.a T.is_chosen.fd ["value", "kinds"] (spChosen K) := by
  refine T.is_chosen.F.ok sc_is_chosen (fun vs H Q E h => ?_) (fun cdv A outer s H vs Q E hr h => ?_)
  · obtain ⟨x, d, n, ok, b, ks, rfl, _⟩ := h; rfl
  obtain ⟨x, d, n, ok, b, ks, rfl, h, hn, hb, hk, q⟩ := h
  refine ⟨_, (pss_cons (ps_if (PW.pt (pw_or (pt_not (pt_val (pe_callB (kisi K) (by rfl) T.z_isinstance (by decide +kernel) (pa_cons (pv 0) (pa_cons (pe_bltn (v := .ty "tuple") rfl T.z_tuple (by decide +kernel) rfl) pa_nil))))) (pw_or1 (pt_cmpR (keqD K hr.units) (pv 0) (pe_tup pa_nil) (nomark _))))) (pss_one (ps_ret pe_bl)) pss_nil)
    (pss_cons (ps_if (pt_not (pt_val (pe_callB (kall K rfl) (by rfl) T.z_all (by decide +kernel) (pa_cons (pe_lc (own := [("kind", 2)]) (g := gName 2) (by rfl) sc_is_chosen.nd (kpit K (pv 0)) (blkOk_by (own := [("kind", 2)]) (N := ["value", "kinds", "kind"]) (sc := defScope s_is_chosen) (by decide +kernel)) (fun _ _ _ _ _ => (pg_name (i := 2) sc_is_chosen.nd rfl (Or.inl rfl))) (fun _ _ _ _ _ => pts_nil) (fun _ _ _ _ _ => (pe_and (pe_call (ok_is_integer T.toTA1) (hr.mono (by decide)) rfl T.is_integer.m T.is_integer.F.kp T.is_integer.b .nil pass0 (pa_cons (pv 2) pa_nil)) (pe_one (pe_cmpR (kin K) (pv 2) (pv 1) (by rfl)))))) pa_nil)))) (pss_one (ps_ret pe_bl)) pss_nil)
    (pss_one (ps_ret (pe_call (ok_is_ascending T) (hr.mono (by decide)) rfl T.is_ascending.m T.is_ascending.F.kp T.is_ascending.b .nil pass0 (pa_cons (pv 0) pa_nil)))))), ?_⟩
  have fin : ∀ H' c, Ex H H' → chosenD ks d = c → Q (.bl c) H' := fun H' c e hc => hc ▸ q H' e
  have h0 := h
  cases h with
  | non => exact ⟨_, rfl, _, _, _, _, false, rfl, .ty "tuple", .base .non, kit_ty (by decide +kernel), _, rfl, iteT (iteT (fin _ _ (Ex.refl _) rfl))⟩
  | bl c => exact ⟨_, rfl, _, _, _, _, false, rfl, .ty "tuple", .base (.bl c), kit_ty (by decide +kernel), _, rfl, iteT (iteT (fin _ _ (Ex.refl _) rfl))⟩
  | int i => exact ⟨_, rfl, _, _, _, _, false, rfl, .ty "tuple", .base (.int i), kit_ty (by decide +kernel), _, rfl, iteT (iteT (fin _ _ (Ex.refl _) rfl))⟩
  | str z _ _ => exact ⟨_, rfl, _, _, _, _, false, rfl, .ty "tuple", .base (.str z), kit_ty (by decide +kernel), _, rfl, iteT (iteT (fin _ _ (Ex.refl _) rfl))⟩
  | lst h1 => exact ⟨_, rfl, _, _, _, _, false, rfl, .ty "tuple", .base (.lst h1), kit_ty (by decide +kernel), _, rfl, iteT (iteT (fin _ _ (Ex.refl _) rfl))⟩
  | @tup n a xs ds h1 ha hl hz all =>
    refine ⟨_, rfl, _, _, _, _, true, rfl, .ty "tuple", tyT h1, kit_ty (by decide +kernel), _, rfl, iteF ?_⟩
    refine ⟨_, rfl, (by show 0 ≤ sizeLine; decide), fun e he => ?_⟩
    have n1 : Ex H (upd H e (.tup [])) := Ex.new he
    have hr1 := h0.ex n1
    have un : upd H e (.tup []) e = some (.tup []) := upd_same
    generalize upd H e (.tup []) = H1 at *
    refine ⟨.tuple ds, .tuple [], hr1.dp, .tup (SqT.of un) .nil, hr1.shaped (by omega), shaped0, ?_⟩
    match ds, hl, all, fin, hr1 with
    | [], _, _, fin, _ => exact ⟨_, rfl, iteT (fin _ _ n1 rfl)⟩
    | d0 :: r, hl, all, fin, hr1 =>
    refine ⟨_, rfl, iteF ?_⟩
    have hs1 := ex_t n1 h1
    have hb1 := ex_l n1 hb
    have he : ∀ (i : Nat) (x : V) (H2 : Hp), Ex H1 H2 → xs[i]? = some x → Ev (tAndV (tCall (spIsInteger K) [] E0 (tCons (tVar 2) tNil)) (tOp (rIn K false) (tVar 2) (tVar 1))) ((wipe (start ["value", "kinds", "kind"] [.ref a, .ref b]) [2]).set 2 (some x)) H2 (.bl (inD ks ((d0 :: r).getD i .none))) := by
      intro i x H2 e1 hx H3 e2 Q2 k2
      have hi := (List.getElem?_eq_some_iff.mp hx).1
      have hd : (d0 :: r)[i]? = some ((d0 :: r)[i]'(by omega)) := List.getElem?_eq_getElem _
      have rr := (all i x _ hx hd).ex ((n1.trans e1).trans e2)
      have g : (d0 :: r).getD i .none = (d0 :: r)[i]'(by omega) := by rw [List.getD_eq_getElem?_getD, hd]; rfl
      rw [g] at k2
      generalize (d0 :: r)[i]'(by omega) = dd at rr k2
      refine ⟨_, rfl, _, rfl, rr.dat, _, rfl, ?_⟩
      cases rr with
      | int z =>
        refine iteT ⟨_, rfl, _, rfl, b, _, rfl, .inl (ex_l (e1.trans e2) hb1), rfl, flat_ints, ?_⟩
        rw [if_neg (by decide), inV_ints]
        exact k2 H3 (Ex.refl _)
      | non => exact iteF (k2 H3 (Ex.refl _))
      | bl _ => exact iteF (k2 H3 (Ex.refl _))
      | str _ _ _ => exact iteF (k2 H3 (Ex.refl _))
      | lst _ _ _ _ _ => exact iteF (k2 H3 (Ex.refl _))
      | tup _ _ _ _ _ => exact iteF (k2 H3 (Ex.refl _))
    refine (el_lcT (t := tYes) (tl := tVar 0) (te := tAndV (tCall (spIsInteger K) [] E0 (tCons (tVar 2) tNil)) (tOp (rIn K false) (tVar 2) (tVar 1))) (j := 2) (σ := start ["value", "kinds", "kind"] [.ref a, .ref b]) (vs := [2]) (fun _ => true) (fun i => .bl (inD ks ((d0 :: r).getD i .none))) (ev_var rfl) hs1 (by omega) (fun _ => rfl) (fun i x H1 _ _ H2 _ Q k => k H2 (Ex.refl _)) (fun i x H2 e1 hx _ => he i x H2 e1 hx)) H1 (Ex.refl _) (fun v H2 => rAll K [v] H2 fun x H' => ∃ c, x = .bl c ∧ (if (!c) = true then Q (.bl false) H' else tCall (spAsc K) [] E0 (tCons (tVar 0) tNil) (start ["value", "kinds", "kind"] [.ref a, .ref b]) H' Q)) fun p H2 hp e2 h2 => ?_
    rw [given_all] at h2
    have e : (List.range xs.length).map (fun i => V.bl (inD ks ((d0 :: r).getD i .none))) = ((d0 :: r).map (inD ks)).map V.bl := by
      apply List.ext_getElem?
      intro i
      rw [List.getElem?_map, List.getElem?_map, List.getElem?_map]
      by_cases c : i < xs.length
      · rw [List.getElem?_range c, List.getElem?_eq_getElem (show i < (d0 :: r).length by omega)]
        simp [List.getD_eq_getElem?_getD, List.getElem?_eq_getElem (show i < (d0 :: r).length by omega)]
      · rw [List.getElem?_eq_none (by rw [List.length_range]; omega), List.getElem?_eq_none (show (d0 :: r).length ≤ i by omega)]
        rfl
    rw [e] at h2
    refine ⟨p, (d0 :: r).map (inD ks), rfl, SqL.of h2, _, rfl, ?_⟩
    rw [List.all_map]
    cases al : (d0 :: r).all (inD ks) with
    | false =>
      rw [show (d0 :: r).all (id ∘ inD ks) = false from al]
      exact iteT (fin _ _ (n1.trans e2) (by show (!(d0 :: r).isEmpty && (d0 :: r).all (inD ks) && ascD (d0 :: r)) = false; rw [al]; rfl))
    | true =>
      rw [show (d0 :: r).all (id ∘ inD ks) = true from al]
      have al2 : (d0 :: r).all (betwD 1 64) = true := List.all_eq_true.mpr fun z hz => by
        have := List.all_eq_true.mp al z hz
        cases z with
        | int i => exact decide_eq_true (hk i (of_decide_eq_true this))
        | none => cases this
        | bool _ => cases this
        | str _ => cases this
        | list _ => cases this
        | tuple _ => cases this
        | dict _ => cases this
      exact iteF ⟨_, rfl, .ref a, .tuple (d0 :: r), n + 1, ok, rfl, hr1.ex e2, rfl, al2, fun H3 e3 => fin _ _ ((n1.trans e2).trans e3) (by show (!(d0 :: r).isEmpty && (d0 :: r).all (inD ks) && ascD (d0 :: r)) = ascD (d0 :: r); rw [al]; rfl)⟩
end
end L2.U


set_option Elab.async false
set_option linter.all false
set_option maxRecDepth 100000
set_option maxHeartbeats 4000000
namespace L2.U
open PySem PySem.Spec PyProof.Rows Evl
section
variable {P : Program} {w : World} {K : PySem.W.Frag} {mg : Str → Option Value} {base : Heap}
def intD : PyData → Int
  | .int i => i
  | _ => 0
def intsOf : PyData → List Int
  | .tuple ds => ds.map intD
  | .list ds => ds.map intD
  | _ => []
def roundsL : List Int → List PyData → Int → Bool
  | _, [], _ => true
  | ks, d :: r, g => chosenD ks d && roundsL (behindI ks (intsOf d) g) r g
def roundsD (ks : List Int) (g : Int) : PyData → Bool
  | .tuple ds => roundsL ks ds g
  | _ => false
theorem roundsL_cons {ks : List Int} {d : PyData} {r : List PyData} {g : Int} : roundsL ks (d :: r) g = (chosenD ks d && roundsL (behindI ks (intsOf d) g) r g) := rfl
theorem behind_sub {ks cs : List Int} {g : Int} : ∀ z ∈ behindI ks cs g, z ∈ ks := fun z hz => (List.mem_filter.mp (List.mem_of_mem_drop hz)).1
theorem behind_len {ks cs : List Int} {g : Int} : (behindI ks cs g).length ≤ ks.length := Nat.le_trans (by unfold behindI; rw [List.length_drop]; omega) (List.length_filter_le (fun z => !decide (z ∈ cs)) ks)
theorem chosen_ints {ok : Addr → Prop} {H : Hp} {n : Nat} {x : V} {d : PyData} {ks : List Int} (h : Rd K ok H n x d) (c : chosenD ks d = true) : ∃ a, x = .ref a ∧ SqT K H a ((intsOf d).map V.int) := by
  cases h with
  | @tup n a xs ds h1 ha hl hz all =>
    have c' : (!ds.isEmpty && ds.all (inD ks) && ascD ds) = true := c
    simp only [Bool.and_eq_true] at c'
    refine ⟨a, rfl, ?_⟩
    have e : xs = (ds.map intD).map V.int := by
      apply List.ext_getElem?
      intro i
      rw [List.getElem?_map, List.getElem?_map]
      by_cases hi : i < xs.length
      · have hd : ds[i]? = some (ds[i]'(by omega)) := List.getElem?_eq_getElem _
        have r := all i _ _ (List.getElem?_eq_getElem hi) hd
        have m := List.all_eq_true.mp c'.1.2 _ (List.getElem_mem (show i < ds.length by omega))
        rw [hd, List.getElem?_eq_getElem hi]
        generalize ds[i]'(by omega) = dd at r m
        generalize xs[i] = xx at r
        cases r with
        | int z => rfl
        | non => cases m
        | bl _ => cases m
        | str _ _ _ => cases m
        | lst _ _ _ _ _ => cases m
        | tup _ _ _ _ _ => cases m
      · rw [List.getElem?_eq_none (by omega), List.getElem?_eq_none (show ds.length ≤ i by omega)]; rfl
    rw [show intsOf (.tuple ds) = ds.map intD from rfl, ← e]
    exact h1
  | non => cases c
  | bl _ => cases c
  | int _ => cases c
  | str _ _ _ => cases c
  | lst _ _ _ _ _ => cases c
def spRounds (K : PySem.W.Frag) : Sp := fun vs H Q _ => ∃ (x : V) (d : PyData) (n : Nat) (ok : Addr → Prop) (b : Addr) (ks : List Int) (g : Int), vs = [x, .ref b, .int g] ∧ RdA K ok H n x d ∧ n ≤ 20 ∧ (SqL K H b (ks.map V.int) ∨ SqT K H b (ks.map V.int)) ∧ ks.length ≤ 64 ∧ (∀ k ∈ ks, 1 ≤ k ∧ k ≤ 64) ∧ (g = 0 ∨ g = 1) ∧ ∀ H', Ex H H' → Q (.bl (roundsD ks g d)) H'
theorem ok_are_rounds (T : TA2 K mg) : FnOk P w K mg base CX0 5 T.are_rounds.a T.are_rounds.fd ["value", "kinds", "gap"] (spRounds K) := by
  refine T.are_rounds.F.ok sc_are_rounds (fun vs H Q E h => ?_) (fun cdv A outer s H vs Q E hr h => ?_)
  · obtain ⟨x, d, n, ok, b, ks, g, rfl, _⟩ := h; rfl
  obtain ⟨x, d, n, ok, b, ks, g, rfl, h, hn, hb, hk64, hk, hg, q⟩ := h
  refine ⟨_, (pss_cons (ps_if (pt_not (pt_val (pe_callB (kisi K) (by rfl) T.z_isinstance (by decide +kernel) (pa_cons (pv 0) (pa_cons (pe_bltn (v := .ty "tuple") rfl T.z_tuple (by decide +kernel) rfl) pa_nil))))) (pss_one (ps_ret pe_bl)) pss_nil)
    (pss_cons (ps_set (i := 3) sc_are_rounds.nd rfl (Or.inl rfl) (pe_callTy (klist K) (by rfl) T.z_list (by decide +kernel) (pa_cons (pv 1) pa_nil)))
    (pss_cons (ps_for PassesOwn.never rfl (kpit K (pv 0)) (pg_name (i := 4) sc_are_rounds.nd rfl (Or.inl rfl)) (pss_cons (ps_if (pt_not (pt_val (pe_call (ok_is_chosen T) (hr.mono (by decide)) rfl T.is_chosen.m T.is_chosen.F.kp T.is_chosen.b .nil pass0 (pa_cons (pv 4) (pa_cons (pv 3) pa_nil))))) (pss_one (ps_ret pe_bl)) pss_nil)
    (pss_one (ps_set (i := 3) sc_are_rounds.nd rfl (Or.inl rfl) (pe_call (ok_behind T) (hr.mono (by decide)) rfl T.behind.m T.behind.F.kp T.behind.b .nil pass0 (pa_cons (pv 3) (pa_cons (pv 4) (pa_cons (pv 2) pa_nil))))))))
    (pss_one (ps_ret pe_bl))))), ?_⟩
  have fin : ∀ H' c, Ex H H' → roundsD ks g d = c → Q (.bl c) H' := fun H' c e hc => hc ▸ q H' e
  rcases h with h | ⟨a, rfl, rfl, _, hd⟩
  case inr => exact ⟨_, rfl, _, _, _, _, false, rfl, .ty "tuple", .base (.dK hd), kit_ty (by decide +kernel), _, rfl, iteT (fin _ _ (Ex.refl _) rfl)⟩
  cases h with
  | non => exact ⟨_, rfl, _, _, _, _, false, rfl, .ty "tuple", .base .non, kit_ty (by decide +kernel), _, rfl, iteT (fin _ _ (Ex.refl _) rfl)⟩
  | bl c => exact ⟨_, rfl, _, _, _, _, false, rfl, .ty "tuple", .base (.bl c), kit_ty (by decide +kernel), _, rfl, iteT (fin _ _ (Ex.refl _) rfl)⟩
  | int i => exact ⟨_, rfl, _, _, _, _, false, rfl, .ty "tuple", .base (.int i), kit_ty (by decide +kernel), _, rfl, iteT (fin _ _ (Ex.refl _) rfl)⟩
  | str z _ _ => exact ⟨_, rfl, _, _, _, _, false, rfl, .ty "tuple", .base (.str z), kit_ty (by decide +kernel), _, rfl, iteT (fin _ _ (Ex.refl _) rfl)⟩
  | lst h1 => exact ⟨_, rfl, _, _, _, _, false, rfl, .ty "tuple", .base (.lst h1), kit_ty (by decide +kernel), _, rfl, iteT (fin _ _ (Ex.refl _) rfl)⟩
  | @tup n a xs ds h1 ha hl hz all =>
    refine ⟨_, rfl, _, _, _, _, true, rfl, .ty "tuple", tyT h1, kit_ty (by decide +kernel), _, rfl, iteF ?_⟩
    refine ⟨_, rfl, b, _, rfl, hb, fun l hl0 => ?_⟩
    have n1 : Ex H (upd H l (.lst (ks.map V.int))) := Ex.new hl0
    refine ⟨_, rfl, a, rfl, ⟨_, ex_t n1 h1⟩, for_tup (xs := xs) (fun i σ H' => Ex H H' ∧ ∃ l ls v, σ = [some (.ref a), some (.ref b), some (.int g), some (.ref l), v] ∧ H' l = some (.lst (ls.map V.int)) ∧ ls.length ≤ 64 ∧ (∀ k ∈ ls, 1 ≤ k ∧ k ≤ 64) ∧ roundsL ks ds g = roundsL ls (ds.drop i) g)
      ⟨n1, l, ks, _, rfl, upd_same, hk64, hk, rfl⟩ (fun i σ H' _ h => ex_t h.1 h1) ?_ ?_⟩
    · rintro i x σ H' hx ⟨e, l, ls, v, rfl, hl2, h64, hls, hm⟩
      have hi := (List.getElem?_eq_some_iff.mp hx).1
      have hd : ds[i]? = some (ds[i]'(by omega)) := List.getElem?_eq_getElem _
      have r := (all i x _ hx hd).ex e
      rw [← List.getElem_cons_drop (show i < ds.length by omega), roundsL_cons] at hm
      generalize ds[i]'(by omega) = dd at r hm
      refine ⟨_, rfl, _, rfl, x, dd, n, ok, l, ls, rfl, r, by omega, SqL.of hl2, hls, fun H2 e2 => ⟨_, rfl, ?_⟩⟩
      cases c : chosenD ls dd with
      | false =>
        rw [c, Bool.false_and] at hm
        exact iteT (fin _ _ (e.trans e2) hm)
      | true =>
        rw [c, Bool.true_and] at hm
        obtain ⟨a', rfl, hc⟩ := chosen_ints (r.ex e2) c
        exact iteF ⟨_, rfl, _, rfl, _, rfl, l, a', ls, intsOf dd, g, rfl, .inl (SqL.of (e2 _ _ hl2)), hc, h64, hg, fun p H3 e3 _ hp => ⟨(e.trans e2).trans e3, p, behindI ls (intsOf dd) g, _, rfl, hp, Nat.le_trans behind_len h64, fun k hk => hls k (behind_sub k hk), hm⟩⟩
    · rintro σ H' ⟨e, l, ls, v, rfl, _, _, _, hm⟩
      refine fin _ _ e ?_
      show roundsL ks ds g = true
      rw [hm, List.drop_eq_nil_of_le (by omega)]
      rfl
end
end L2.U


set_option Elab.async false
set_option linter.all false
set_option maxRecDepth 100000
set_option maxHeartbeats 4000000
namespace L2.U
open PySem PySem.Spec PyProof.Rows Evl
section
variable {P : Program} {w : World} {K : PySem.W.Frag} {mg : Str → Option Value} {base : Heap}
theorem seq_ints {ok : Addr → Prop} {H : Hp} {n : Nat} {x : V} {d : PyData} {p : PyData → Bool} (h : Rd K ok H n x d) (sq : isSeq d = true) (al : (itemsD d).all p = true) (hp : ∀ e, p e = true → ∃ i, e = .int i) :
    ∃ a, x = .ref a ∧ (SqL K H a (((itemsD d).map intD).map V.int) ∨ SqT K H a (((itemsD d).map intD).map V.int)) := by
  obtain ⟨a, xs, rfl, hs, hl, hz, all⟩ := rd_seq h sq
  have e : xs = ((itemsD d).map intD).map V.int := by
    apply List.ext_getElem?
    intro i
    rw [List.getElem?_map, List.getElem?_map]
    by_cases hi : i < xs.length
    · have hd : (itemsD d)[i]? = some ((itemsD d)[i]'(by omega)) := List.getElem?_eq_getElem _
      have r := all i _ _ (List.getElem?_eq_getElem hi) hd
      obtain ⟨z, ez⟩ := hp _ (List.all_eq_true.mp al _ (List.getElem_mem (show i < (itemsD d).length by omega)))
      rw [hd, List.getElem?_eq_getElem hi]
      rw [ez] at r ⊢
      generalize xs[i] = xx at r
      generalize n - 1 = nn at r
      cases r with
      | int z => rfl
    · rw [List.getElem?_eq_none (by omega), List.getElem?_eq_none (show (itemsD d).length ≤ i by omega)]; rfl
  rw [← e]
  exact ⟨a, rfl, hs.imp (fun z => z.1) (fun z => z.1)⟩
theorem from_int {lo : Int} : ∀ e, fromD lo e = true → ∃ i, e = .int i := fun e h => by cases e <;> first | exact ⟨_, rfl⟩ | cases h
theorem betw_isint {lo hi : Int} : ∀ e, betwD lo hi e = true → ∃ i, e = .int i := fun e h => by cases e <;> first | exact ⟨_, rfl⟩ | cases h
def numsD (d : PyData) : List Int := (itemsD d).map intD
theorem kinds_get {ok : Addr → Prop} {H : Hp} {n : Nat} {x : V} {d : PyData} (h : Rd K ok H n x d) (c : kindsD d = true) : ∃ a, x = .ref a ∧ (SqL K H a ((numsD d).map V.int) ∨ SqT K H a ((numsD d).map V.int)) ∧ (numsD d).length ≤ 16 ∧ ∀ k ∈ numsD d, 1 ≤ k ∧ k ≤ 64 := by
  unfold kindsD at c
  simp only [Bool.and_eq_true] at c
  obtain ⟨⟨⟨c1, c2⟩, c3⟩, c4⟩ := c
  obtain ⟨a, e, hs⟩ := seq_ints h c1 c3 betw_isint
  refine ⟨a, e, hs, by unfold numsD; rw [List.length_map]; exact of_decide_eq_true c2, fun k hk => ?_⟩
  obtain ⟨y, hy, rfl⟩ := List.mem_map.mp hk
  have := List.all_eq_true.mp c3 y hy
  obtain ⟨i, rfl⟩ := betw_isint y this
  exact of_decide_eq_true this
theorem sizes_get {ok : Addr → Prop} {H : Hp} {n : Nat} {x : V} {d : PyData} (h : Rd K ok H n x d) (c : sizesD d = true) : ∃ a, x = .ref a ∧ (SqL K H a ((numsD d).map V.int) ∨ SqT K H a ((numsD d).map V.int)) ∧ (numsD d).length ≤ 16 ∧ ∀ k ∈ numsD d, 1 ≤ k := by
  unfold sizesD at c
  simp only [Bool.and_eq_true] at c
  obtain ⟨⟨c1, c2⟩, c3⟩ := c
  obtain ⟨a, e, hs⟩ := seq_ints h c1 c3 from_int
  refine ⟨a, e, hs, by unfold numsD; rw [List.length_map]; exact of_decide_eq_true c2, fun k hk => ?_⟩
  obtain ⟨y, hy, rfl⟩ := List.mem_map.mp hk
  have := List.all_eq_true.mp c3 y hy
  obtain ⟨i, rfl⟩ := from_int y this
  exact of_decide_eq_true this
theorem kinds_seq {d : PyData} (c : kindsD d = true) : isSeq d = true := by
  unfold kindsD at c
  simp only [Bool.and_eq_true] at c
  exact c.1.1.1
theorem sizes_seq {d : PyData} (c : sizesD d = true) : isSeq d = true := by
  unfold sizesD at c
  simp only [Bool.and_eq_true] at c
  exact c.1.1
def rankD (g : Int) (dx dy dz : PyData) : Bool := betwD 0 (manyI ((numsD dy).length : Int) (numsD dz) g - 1) dx
def spCheckRank (K : PySem.W.Frag) (CK CS CR : Addr) : Sp := fun vs H Q E => ∃ (x y z : V) (dx dy dz : PyData) (n : Nat) (ok : Addr → Prop) (g : Int), vs = [x, y, z, .int g] ∧ RdA K ok H n x dx ∧ RdA K ok H n y dy ∧ RdA K ok H n z dz ∧ (g = 0 ∨ g = 1) ∧
  (kindsD dy = true → sizesD dz = true → rankD g dx dy dz = true → ∀ H', Ex H H' → Q .non H') ∧
  (kindsD dy = false → ∀ e H', Ex H H' → H' e = some (.xd [("given", y)]) → E (.ref CK) (some e) H') ∧
  (kindsD dy = true → sizesD dz = false → ∀ e H', Ex H H' → H' e = some (.xd [("given", z)]) → E (.ref CS) (some e) H') ∧
  (kindsD dy = true → sizesD dz = true → rankD g dx dy dz = false → ∀ e H', Ex H H' → H' e = some (.xd [("given", x)]) → E (.ref CR) (some e) H')
theorem ok_check_rank (T : TA2 K mg) : FnOk P w K mg base (L2.CX P w) 6 T.check_rank.a T.check_rank.fd ["rank", "kinds", "sizes", "gap"] (spCheckRank K T.InvalidKinds.C T.InvalidSizes.C T.InvalidRank.C) := by
  refine T.check_rank.F.okX sc_check_rank (fun vs H Q E h => ?_) (fun cdv A outer s H vs Q E hr h => ?_)
  · obtain ⟨x, y, z, dx, dy, dz, n, ok, g, rfl, _⟩ := h; rfl
  obtain ⟨x, y, z, dx, dy, dz, n, ok, g, rfl, hx, hy, hz, hg, q, qk, qs, qr⟩ := h
  refine ⟨_, (pss_cons (ps_expr (by exact (pe_callS (ok_check_kinds T) (hr.mono (by decide)) rfl T.check_kinds.m T.check_kinds.F.kp T.check_kinds.b (fun σ => passAt (takes_of rfl rfl rfl rfl) σ) (pa_cons (pv 1) pa_nil))))
    (pss_cons (ps_expr (by exact (pe_callS (ok_check_sizes T) (hr.mono (by decide)) rfl T.check_sizes.m T.check_sizes.F.kp T.check_sizes.b (fun σ => passAt (takes_of rfl rfl rfl rfl) σ) (pa_cons (pv 2) pa_nil))))
    (pss_one (ps_if (pt_not (pt_val (pe_call (ok_is_between T.toTA1) (hr.mono (by decide)) rfl T.is_between.m T.is_between.F.kp T.is_between.b .nil pass0 (pa_cons (pv 0) (pa_cons pe_int (pa_cons (pe_op op_sub (pe_call (ok_many T) (hr.mono (by decide)) rfl T.many.m T.many.F.kp T.many.b .nil pass0 (pa_cons (pe_callB (klen K) (by rfl) T.z_len (by decide +kernel) (pa_cons (pv 1) pa_nil)) (pa_cons (pv 2) (pa_cons (pv 3) pa_nil)))) pe_int) pa_nil)))))) (pss_one (ps_raise rfl (takes_of rfl rfl rfl rfl) (pmk_oex T.InvalidRank.T T.InvalidRank.iC T.InvalidRank.tI (ok_init_InvalidRank T.InvalidRank) (hr.mono (by decide)) T.InvalidRank.b .nil pass0 rfl T.InvalidRank.gC (by exact (pa_cons (pv 0) pa_nil))))) pss_nil)))), ?_⟩
  refine ⟨_, rfl, y, dy, n, ok, rfl, hy, fun ck H1 e1 => ?_, fun c e H' ex he => qk c e H' ex he⟩
  refine ⟨_, rfl, z, dz, n, ok, rfl, hz.ex e1, fun cs H2 e2 => ?_, fun c e H' ex he => qs ck c e H' (e1.trans ex) he⟩
  have e12 := e1.trans e2
  obtain ⟨a, rfl, ha, hl, hk⟩ := kinds_get ((hy.ex e12).rd (kinds_seq ck)) ck
  obtain ⟨b, rfl, hb, hl2, hk2⟩ := sizes_get ((hz.ex e12).rd (sizes_seq cs)) cs
  have hr2 := hx.ex e12
  refine ⟨_, rfl, _, rfl, _, _, rfl, (ha.imp (fun z => ⟨_, z, rfl⟩) (fun z => ⟨_, z, rfl⟩)), _, rfl, _, rfl, (((numsD dy).map V.int).length : Int), g, b, numsD dz, rfl, hb, by rw [List.length_map]; omega, by omega, hk2, _, _, rfl, rfl, ?_⟩
  refine ⟨_, _, _, rfl, hr2.dat, fun bb h1 h2 => ⟨bb, rfl, ?_⟩⟩
  have hbb := rda_betw hr2 h1 h2
  have hbb2 : bb = rankD g dx dy dz := by rw [hbb]; unfold rankD; rw [List.length_map]
  subst hbb2
  cases c : rankD g dx dy dz with
  | true => exact iteF (q ck cs c _ e12)
  | false => exact iteT ⟨_, rfl, (by show 1 ≤ 1000; decide), fun a ha => raised ha fun e H' ex he => qr ck cs c e H' (e12.trans ex) he⟩
def spCheckRounds (K : PySem.W.Frag) (CK CR : Addr) : Sp := fun vs H Q E => ∃ (x y : V) (dx dy : PyData) (n : Nat) (ok : Addr → Prop) (g : Int), vs = [x, y, .int g] ∧ RdA K ok H n x dx ∧ RdA K ok H n y dy ∧ n ≤ 20 ∧ (g = 0 ∨ g = 1) ∧
  (kindsD dy = true → roundsD (numsD dy) g dx = true → ∀ H', Ex H H' → Q .non H') ∧
  (kindsD dy = false → ∀ e H', Ex H H' → H' e = some (.xd [("given", y)]) → E (.ref CK) (some e) H') ∧
  (kindsD dy = true → roundsD (numsD dy) g dx = false → ∀ e H', Ex H H' → H' e = some (.xd [("given", x)]) → E (.ref CR) (some e) H')
theorem ok_check_rounds (T : TA2 K mg) : FnOk P w K mg base (L2.CX P w) 6 T.check_rounds.a T.check_rounds.fd ["rounds", "kinds", "gap"] (spCheckRounds K T.InvalidKinds.C T.InvalidRounds.C) := by
  refine T.check_rounds.F.okX sc_check_rounds (fun vs H Q E h => ?_) (fun cdv A outer s H vs Q E hr h => ?_)
  · obtain ⟨x, y, dx, dy, n, ok, g, rfl, _⟩ := h; rfl
  obtain ⟨x, y, dx, dy, n, ok, g, rfl, hx, hy, hn, hg, q, qk, qr⟩ := h
  refine ⟨_, (pss_cons (ps_expr (by exact (pe_callS (ok_check_kinds T) (hr.mono (by decide)) rfl T.check_kinds.m T.check_kinds.F.kp T.check_kinds.b (fun σ => passAt (takes_of rfl rfl rfl rfl) σ) (pa_cons (pv 1) pa_nil))))
    (pss_one (ps_if (pt_not (pt_val (pe_call (ok_are_rounds T) (hr.mono (by decide)) rfl T.are_rounds.m T.are_rounds.F.kp T.are_rounds.b .nil pass0 (pa_cons (pv 0) (pa_cons (pv 1) (pa_cons (pv 2) pa_nil)))))) (pss_one (ps_raise rfl (takes_of rfl rfl rfl rfl) (pmk_oex T.InvalidRounds.T T.InvalidRounds.iC T.InvalidRounds.tI (ok_init_InvalidRounds T.InvalidRounds) (hr.mono (by decide)) T.InvalidRounds.b .nil pass0 rfl T.InvalidRounds.gC (by exact (pa_cons (pv 0) pa_nil))))) pss_nil))), ?_⟩
  refine ⟨_, rfl, y, dy, n, ok, rfl, hy, fun ck H1 e1 => ?_, fun c e H' ex he => qk c e H' ex he⟩
  obtain ⟨a, rfl, ha, hl, hk⟩ := kinds_get ((hy.ex e1).rd (kinds_seq ck)) ck
  refine ⟨_, rfl, _, rfl, _, rfl, x, dx, n, ok, a, numsD dy, g, rfl, hx.ex e1, hn, ha, by omega, hk, hg, fun H2 e2 => ⟨_, rfl, ?_⟩⟩
  cases c : roundsD (numsD dy) g dx with
  | true => exact iteF (q ck c _ (e1.trans e2))
  | false => exact iteT ⟨_, rfl, (by show 1 ≤ 1000; decide), fun a ha => raised ha fun e H' ex he => qr ck c e H' ((e1.trans e2).trans ex) he⟩
end
end L2.U


set_option Elab.async false
set_option linter.all false
set_option maxRecDepth 100000
set_option maxHeartbeats 4000000
namespace L2.U
open PySem PySem.Spec PyProof.Rows Evl

section
variable {P : Program} {w : World} {K : PySem.W.Frag} {mg : Str → Option Value} {base : Heap}
section
variable {X : Cx}
theorem kslS (K : PySem.W.Frag) (h : X.K = K := by rfl) : SlR X (fun x lo hi H Q => rSlL K x lo hi H Q ∨ rSlA K x lo hi H Q) := SlR.or (kslL K h) (kslT K h)
end
/-! ### counting, to 16 -/
def Cn (n k : Nat) : Int := PySem.W.mcComb (n : Int) (k : Int)
theorem cn_pas : ∀ n : Fin 17, ∀ k : Fin 17, Cn (n.val + 1) (k.val + 1) = Cn n.val k.val + Cn n.val (k.val + 1) := by decide +kernel
theorem cn_zero : ∀ n : Fin 18, Cn n.val 0 = 1 := by decide +kernel
theorem cn_none : ∀ k : Fin 17, Cn 0 (k.val + 1) = 0 := by decide +kernel
theorem cn_pos : ∀ n : Fin 18, ∀ k : Fin 18, 0 ≤ Cn n.val k.val ∧ Cn n.val k.val < 2 ^ 30 ∧ (k.val ≤ n.val → 1 ≤ Cn n.val k.val) ∧ (n.val < k.val → Cn n.val k.val = 0) := by decide +kernel
def Fc : Nat → Int
  | 0 => 1
  | n + 1 => Fc n * ((n : Int) + 1)
theorem fc_all : ∀ c : Fin 17, ∀ s : Fin 17, s.val ≤ c.val → Cn c.val s.val * Fc (c.val - s.val) ≤ Fc c.val ∧ 1 ≤ Fc s.val ∧ Fc s.val ≤ Fc c.val := by decide +kernel
theorem fc_top : Fc 16 = 20922789888000 := by decide +kernel
theorem fc_mono {a b : Nat} (h : a ≤ b) (hb : b ≤ 16) : 1 ≤ Fc a ∧ Fc a ≤ Fc b := (fc_all ⟨b, by omega⟩ ⟨a, by omega⟩ h).2
theorem many_neg {c g : Int} {ns : List Int} (hc : c < 0) (h : ∀ z ∈ ns, 1 ≤ z) : manyI c ns g = manyI 0 ns g := by
  cases ns with
  | nil => rfl
  | cons s r =>
    have := h s List.mem_cons_self
    rw [manyI_cons, manyI_cons, if_pos (by omega), if_pos (by omega)]
theorem many_le {g : Int} (hg : 0 ≤ g) : ∀ (ns : List Int) (c : Nat), c ≤ 16 → (∀ z ∈ ns, 1 ≤ z) → 0 ≤ manyI (c : Int) ns g ∧ manyI (c : Int) ns g ≤ Fc c
  | [], c, hc, _ => ⟨by rw [manyI_nil]; decide, (fc_mono (Nat.le_refl _) hc).1⟩
  | s :: r, c, hc, h => by
    have hs := h s List.mem_cons_self
    rw [manyI_cons]
    have f := (fc_mono (Nat.le_refl c) hc).1
    by_cases q : (c : Int) < s
    · rw [if_pos q]; omega
    · rw [if_neg q]
      obtain ⟨t, rfl⟩ : ∃ t : Nat, s = (t : Int) := ⟨s.toNat, by omega⟩
      have e : manyI ((c : Int) - (t : Int) - g) r g = manyI ((((c : Int) - (t : Int) - g).toNat : Nat) : Int) r g := by
        by_cases q2 : (c : Int) - (t : Int) - g < 0
        · rw [many_neg q2 (fun z hz => h z (List.mem_cons_of_mem _ hz)), show ((c : Int) - (t : Int) - g).toNat = 0 by omega]; rfl
        · rw [Int.toNat_of_nonneg (by omega)]
      have ih := many_le hg r ((c : Int) - (t : Int) - g).toNat (by omega) (fun z hz => h z (List.mem_cons_of_mem _ hz))
      rw [e]
      have c1 := cn_pos ⟨c, by omega⟩ ⟨t, by omega⟩
      have c2 := fc_all ⟨c, by omega⟩ ⟨t, by omega⟩ (by show t ≤ c; omega)
      have c3 := fc_mono (show ((c : Int) - (t : Int) - g).toNat ≤ c - t by omega) (by omega)
      refine ⟨Int.mul_nonneg c1.1 ih.1, Int.le_trans (Int.mul_le_mul_of_nonneg_left (Int.le_trans ih.2 c3.2) c1.1) c2.1⟩
theorem log_small {i : Int} (h0 : 0 ≤ i) (h : i ≤ 20922789888000) : i.natAbs.log2 < 9000 := by
  by_cases z : i.natAbs = 0
  · rw [z]; decide
  · rw [Nat.log2_lt z]
    exact Nat.lt_of_lt_of_le (show i.natAbs < 2 ^ 64 by omega) (Nat.pow_le_pow_right (by decide) (by decide))
/-! ### one round -/
theorem for_enum2 {a : Addr} {xs : List V} {tb : TS} {D : Ends} {σ : L2.St} {H H0 : Hp} {p q : Nat} {ta : TA} (ea : ∀ R : List V → Hp → Prop, R [.ref a] H → ta σ H R) (hx : SqL K H0 a xs ∨ SqT K H0 a xs) (Pv : Nat → L2.St → Hp → Prop) (h0 : Pv 0 σ H)
    (hG : ∀ i σ H', i ≤ xs.length → Pv i σ H' → Ex H0 H')
    (hs : ∀ i x σ H' T, xs[i]? = some x → Pv i σ H' → H' T = none → tb { D with nx := Pv (i + 1), ct := Pv (i + 1), bk := D.nx } ((σ.set p (some (.int (i : Int)))).set q (some x)) (upd H' T (.tup [.int (i : Int), x]))) (hd : ∀ σ H, Pv xs.length σ H → D.nx σ H) :
    tFor (iEnumS K ta) (gTup K 2 (gCons (gName p) (gCons (gName q) gNil))) tb D σ H := by
  have turn : ∀ i v σ' H1 H2, i < xs.length → Pv i σ' H1 → YPair (fun i => some (V.int (i : Nat))) (fun i => xs[i]?) i H1 v H2 → gTup K 2 (gCons (gName p) (gCons (gName q) gNil)) v σ' H2 fun σ2 H3 => tb { D with nx := Pv (i + 1), ct := Pv (i + 1), bk := D.nx } σ2 H3 := by
    rintro i v σ' H1 H2 hi pv ⟨T, u, x, rfl, hT, rfl, h1, h2⟩
    cases Option.some.inj h1
    exact ⟨T, _, rfl, SqT.of upd_same, rfl, _, _, rfl, _, _, rfl, rfl, hs i x σ' H1 T h2 pv hT⟩
  have e0 := hG 0 σ H (Nat.zero_le _) h0
  rcases hx with hx | hx
  · exact .inl (ea _ ⟨a, xs, rfl, ex_l e0 hx, for_it walk_enum Pv h0 (fun i σ' H' hi pv => ex_l (hG i σ' H' hi pv) hx) turn hd⟩)
  · exact .inr (ea _ ⟨a, xs, rfl, ex_t e0 hx, for_it walk_enumT Pv h0 (fun i σ' H' hi pv => ex_t (hG i σ' H' hi pv) hx) turn hd⟩)
def spMC (K : PySem.W.Frag) : Sp := fun vs H Q _ => ∃ (a b : Addr) (ks cs : List Int), vs = [.ref a, .ref b] ∧ SqL K H a (ks.map V.int) ∧ SqT K H b (cs.map V.int) ∧ ks.length ≤ 64 ∧ cs.length ≤ 64 ∧ Q (.int (Cn ks.length cs.length)) H
theorem ok_many_chosen (T : TA2 K mg) : FnOk P w K mg base CX0 1 T.many_chosen.a T.many_chosen.fd ["kinds", "chosen"] (spMC K) := by
  refine T.many_chosen.F.ok sc_many_chosen (fun vs H Q E h => ?_) (fun cdv A outer s H vs Q E hr h => ?_)
  · obtain ⟨a, b, ks, cs, rfl, _⟩ := h; rfl
  obtain ⟨a, b, ks, cs, rfl, ha, hb, hk, hc, q⟩ := h
  refine ⟨_, (pss_one (ps_ret (pe_callBfun cr_comb rfl T.c_comb (pa_cons (pe_callB (klen K) (by rfl) T.z_len (by decide +kernel) (pa_cons (pv 0) pa_nil)) (pa_cons (pe_callB (klen K) (by rfl) T.z_len (by decide +kernel) (pa_cons (pv 1) pa_nil)) pa_nil))))), ?_⟩
  exact ⟨_, rfl, _, ks.length, rfl, .inl ⟨_, ha, by rw [List.length_map]⟩, _, rfl, _, cs.length, rfl, .inr ⟨_, hb, by rw [List.length_map]⟩, _, _, rfl, by omega, by omega, by omega, by omega, q⟩
theorem take_snoc {ks : List Int} {i : Nat} {z : Int} (h : ks[i]? = some z) : ks.take (i + 1) = ks.take i ++ [z] := by
  obtain ⟨hi, e⟩ := List.getElem?_eq_some_iff.mp h
  rw [← List.take_append_getElem hi, e]
def chA : List Int → Int → Nat → List Int
  | [], _, _ => []
  | _ :: _, _, 0 => []
  | k :: ks, r, s + 1 => if r < Cn ks.length s then k :: chA ks r s else chA ks (r - Cn ks.length s) (s + 1)
theorem chA_zero {ks : List Int} {r : Int} : chA ks r 0 = [] := by cases ks <;> rfl
theorem chA_cons {k r : Int} {ks : List Int} {s : Nat} : chA (k :: ks) r (s + 1) = if r < Cn ks.length s then k :: chA ks r s else chA ks (r - Cn ks.length s) (s + 1) := by
  conv => lhs; unfold chA
theorem chA_sub : ∀ (ks : List Int) (r : Int) (s : Nat), ks.length ≤ 16 → s ≤ 16 → 0 ≤ r → r < Cn ks.length s → (chA ks r s).Sublist ks ∧ (chA ks r s).length = s
  | [], r, 0, _, _, _, _ => ⟨List.nil_sublist _, rfl⟩
  | _ :: _, r, 0, _, _, _, _ => ⟨List.nil_sublist _, rfl⟩
  | [], r, s + 1, _, hs, r0, r1 => by
    have n := cn_none ⟨s, by omega⟩
    simp only at n
    have r1' : r < Cn 0 (s + 1) := r1
    omega
  | k :: ks, r, s + 1, hk, hs, r0, r1 => by
    have hk' : ks.length ≤ 15 := by simp only [List.length_cons] at hk; omega
    have pas := cn_pas ⟨ks.length, by omega⟩ ⟨s, by omega⟩
    simp only at pas
    have r1' : r < Cn (ks.length + 1) (s + 1) := r1
    rw [chA_cons]
    by_cases c : r < Cn ks.length s
    · rw [if_pos c]
      obtain ⟨h1, h2⟩ := chA_sub ks r s (by omega) (by omega) r0 c
      exact ⟨h1.cons_cons k, by rw [List.length_cons, h2]⟩
    · rw [if_neg c]
      obtain ⟨h1, h2⟩ := chA_sub ks (r - Cn ks.length s) (s + 1) (by omega) hs (by omega) (by omega)
      exact ⟨h1.cons k, h2⟩
def spChAt (K : PySem.W.Frag) : Sp := fun vs H Q _ => ∃ (r : Int) (a : Addr) (ks : List Int) (s : Nat), vs = [.int r, .ref a, .int (s : Int)] ∧ SqL K H a (ks.map V.int) ∧ ks.length ≤ 16 ∧ s ≤ 16 ∧ 0 ≤ r ∧ r < Cn ks.length s ∧
  ∀ (p : Addr) H', Ex H H' → H' p = some (.tup ((chA ks r s).map V.int)) → Q (.ref p) H'
theorem ok_chosen_at (T : TA2 K mg) : FnOk P w K mg base CX0 1 T.chosen_at.a T.chosen_at.fd ["rank", "kinds", "size"] (spChAt K) := by
  refine T.chosen_at.F.ok sc_chosen_at (fun vs H Q E h => ?_) (fun cdv A outer s H vs Q E hr h => ?_)
  · obtain ⟨r, a, ks, s, rfl, _⟩ := h; rfl
  obtain ⟨r, a, ks, s, rfl, ha, hk, hs, r0, r1, q⟩ := h
  refine ⟨_, (pss_cons (ps_set (i := 3) sc_chosen_at.nd rfl (Or.inl rfl) (pe_lst pa_nil))
    (pss_cons (ps_for PassesOwn.never rfl (pi_enumS (by rfl) T.z_enumerate (pa_cons (pv 1) pa_nil)) (pg_tup (by rfl) (pgs_cons (pg_name (i := 4) sc_chosen_at.nd rfl (Or.inl rfl)) (pgs_cons (pg_name (i := 5) sc_chosen_at.nd rfl (Or.inl rfl)) pgs_nil))) (pss_cons (ps_if (pt_cmpR op_eq (pe_callB (klen K) (by rfl) T.z_len (by decide +kernel) (pa_cons (pv 3) pa_nil)) (pv 2) (nomark _)) (pss_one (ps_break)) pss_nil)
    (pss_cons (ps_set (i := 6) sc_chosen_at.nd rfl (Or.inl rfl) (pe_callBfun cr_comb rfl T.c_comb (pa_cons (pe_op op_sub (pe_op op_sub (pe_callB (klen K) (by rfl) T.z_len (by decide +kernel) (pa_cons (pv 1) pa_nil)) (pv 4)) pe_int) (pa_cons (pe_op op_sub (pe_op op_sub (pv 2) (pe_callB (klen K) (by rfl) T.z_len (by decide +kernel) (pa_cons (pv 3) pa_nil))) pe_int) pa_nil))))
    (pss_one (ps_if (pt_cmpR op_lt (pv 0) (pv 6) (nomark _)) (pss_one (ps_expr (pe_bm PySem.F.plainAttrs_list PySem.F.slot_list_append PySem.F.type_list_append mt_append (pv 3) (pa_cons (pv 5) pa_nil)))) (pss_one (ps_aug (i := 0) sc_chosen_at.nd rfl (Or.inl rfl) (pv 6) ip_sub)))))))
    (pss_one (ps_ret (pe_callTy (ktuple K) (by rfl) T.z_tuple (by decide +kernel) (pa_cons (pv 3) pa_nil)))))), ?_⟩
  refine ⟨Nat.zero_le _, fun D hD => ?_⟩
  have fin : ∀ (cs : List Int) H', Ex H H' → H' D = some (.lst (cs.map V.int)) → cs = chA ks r s → ∀ σ : L2.St, σ[3]? = some (some (.ref D)) → tRet (tCB (rTupOf K) (tCons (tVar 3) tNil)) { nx := fun _ H' => Q .non H', rt := Q } σ H' :=
    fun cs H' e hd hc σ hσ => ⟨_, hσ, D, _, rfl, .inl ⟨SqL.of hd, fun l hl2 => q l _ (e.trans (Ex.new hl2)) (by rw [upd_same, hc])⟩⟩
  refine for_enum2 (p := 4) (q := 5) (H0 := H) (xs := ks.map V.int) (fun R r => ⟨_, rfl, r⟩) (.inl ha)
    (fun i σ H' => Ex H H' ∧ ∃ (cs : List Int) (rr : Int) (x4 x5 x6 : Option V), H' D = some (.lst (cs.map V.int)) ∧ chA ks r s = cs ++ chA (ks.drop i) rr (s - cs.length) ∧ cs.length ≤ s ∧ 0 ≤ rr ∧ rr < Cn (ks.length - i) (s - cs.length) ∧ σ = [some (.int rr), some (.ref a), some (.int (s : Int)), some (.ref D), x4, x5, x6])
    ⟨Ex.new hD, [], r, _, _, _, upd_same, rfl, Nat.zero_le _, r0, r1, rfl⟩ (fun i σ H' _ p => p.1) ?_ ?_
  · rintro i x σ H' t hx ⟨e, cs, rr, x4, x5, x6, hd, sub, hl, rr0, rr1, rfl⟩ ht
    obtain ⟨z, hz, rfl⟩ := ints_get hx
    obtain ⟨hi, hzi⟩ := List.getElem?_eq_some_iff.mp hz
    have e1 := e.trans (Ex.new (o := .tup [.int (i : Int), .int z]) ht)
    have hd1 := (Ex.new (o := .tup [.int (i : Int), .int z]) ht) _ _ hd
    refine ⟨_, rfl, _, cs.length, rfl, .inl ⟨_, SqL.of hd1, by rw [List.length_map]⟩, _, rfl, rfl, _, rfl, ite2 (fun c => ?_) (fun c => ?_)⟩
    · have c' : ((cs.length : Nat) : Int) = (s : Int) := V.int.inj (of_decide_eq_true c)
      rw [show s - cs.length = 0 by omega, chA_zero, List.append_nil] at sub
      exact fin cs _ e1 hd1 sub.symm _ rfl
    · have c' : cs.length ≠ s := fun z => c (by rw [z]; exact decide_eq_true rfl)
      rw [List.drop_eq_getElem_cons hi, hzi, show s - cs.length = (s - cs.length - 1) + 1 by omega] at sub
      rw [chA_cons, List.length_drop, show ks.length - (i + 1) = ks.length - i - 1 by omega] at sub
      refine ⟨_, rfl, _, ks.length, rfl, .inl ⟨_, ex_l e1 ha, by rw [List.length_map]⟩, _, rfl, _, _, rfl, rfl, _, _, rfl, rfl, _, rfl, _, rfl, _, cs.length, rfl, .inl ⟨_, SqL.of hd1, by rw [List.length_map]⟩, _, _, rfl, rfl, _, _, rfl, rfl, _, _, rfl, by omega, by omega, by omega, by omega, ?_⟩
      have ec : PySem.W.mcComb ((ks.length : Int) - (i : Int) - 1) ((s : Int) - (cs.length : Int) - 1) = Cn (ks.length - i - 1) (s - cs.length - 1) := by
        unfold Cn
        congr 1 <;> omega
      rw [ec]
      have pas := cn_pas ⟨ks.length - i - 1, by omega⟩ ⟨s - cs.length - 1, by omega⟩
      simp only at pas
      rw [show ks.length - i - 1 + 1 = ks.length - i by omega, show s - cs.length - 1 + 1 = s - cs.length by omega] at pas
      refine ⟨_, rfl, _, rfl, _, _, rfl, rfl, _, rfl, ite2 (fun d => ?_) (fun d => ?_)⟩
      · have d' := of_decide_eq_true d
        rw [if_pos d'] at sub
        refine ⟨_, rfl, .inl ⟨rfl, _, SqL.of hd1⟩, _, rfl, D, _, _, rfl, rfl, hd1, small1000 (by rw [List.length_map]; omega), e1.mut hD, cs ++ [z], rr, _, _, _, ?_, ?_, by rw [List.length_append, List.length_singleton]; omega, rr0, ?_, rfl⟩
        · rw [upd_same, List.map_append]; rfl
        · rw [sub, List.append_assoc, List.length_append, List.length_singleton, show s - (cs.length + 1) = s - cs.length - 1 by omega]
          rfl
        · rw [List.length_append, List.length_singleton, show ks.length - (i + 1) = ks.length - i - 1 by omega, show s - (cs.length + 1) = s - cs.length - 1 by omega]
          exact d'
      · have d' := of_decide_eq_false (Bool.eq_false_iff.mpr d)
        rw [if_neg d', show s - cs.length - 1 + 1 = s - cs.length by omega] at sub
        refine ⟨_, rfl, _, rfl, _, _, rfl, rfl, e1, cs, rr - Cn (ks.length - i - 1) (s - cs.length - 1), _, _, _, hd1, sub, hl, by omega, ?_, rfl⟩
        rw [show ks.length - (i + 1) = ks.length - i - 1 by omega]
        omega
  · rintro σ H' ⟨e, cs, rr, x4, x5, x6, hd, sub, hl, rr0, rr1, rfl⟩
    rw [List.length_map] at sub rr1
    rw [List.drop_length] at sub
    exact fin cs _ e hd (by rw [sub]; exact (List.append_nil _).symm) _ rfl
def crk : List Int → List Int → Int
  | [], _ => 0
  | _ :: _, [] => 0
  | c :: cs, k :: ks => if k = c then crk cs ks else Cn ks.length cs.length + crk (c :: cs) ks
theorem crk_nil {ks : List Int} : crk [] ks = 0 := by cases ks <;> rfl
theorem crk_end {cs : List Int} : crk cs [] = 0 := by cases cs <;> rfl
theorem crk_cons {c k : Int} {cs ks : List Int} : crk (c :: cs) (k :: ks) = if k = c then crk cs ks else Cn ks.length cs.length + crk (c :: cs) ks := by
  conv => lhs; unfold crk
def spChRk (K : PySem.W.Frag) : Sp := fun vs H Q _ => ∃ (a b : Addr) (ks cs : List Int), vs = [.ref b, .ref a] ∧ SqL K H a (ks.map V.int) ∧ SqT K H b (cs.map V.int) ∧ ks.length ≤ 16 ∧ cs.length ≤ ks.length ∧ ∀ H', Ex H H' → Q (.int (crk cs ks)) H'
theorem ok_chosen_rank (T : TA2 K mg) : FnOk P w K mg base CX0 1 T.chosen_rank.a T.chosen_rank.fd ["chosen", "kinds"] (spChRk K) := by
  refine T.chosen_rank.F.ok sc_chosen_rank (fun vs H Q E h => ?_) (fun cdv A outer s H vs Q E hr h => ?_)
  · obtain ⟨a, b, ks, cs, rfl, _⟩ := h; rfl
  obtain ⟨a, b, ks, cs, rfl, ha, hb, hk, hc, q⟩ := h
  refine ⟨_, (pss_cons (ps_set (i := 2) sc_chosen_rank.nd rfl (Or.inl rfl) pe_int)
    (pss_cons (ps_set (i := 3) sc_chosen_rank.nd rfl (Or.inl rfl) pe_int)
    (pss_cons (ps_for PassesOwn.never rfl (pi_enumS (by rfl) T.z_enumerate (pa_cons (pv 1) pa_nil)) (pg_tup (by rfl) (pgs_cons (pg_name (i := 4) sc_chosen_rank.nd rfl (Or.inl rfl)) (pgs_cons (pg_name (i := 5) sc_chosen_rank.nd rfl (Or.inl rfl)) pgs_nil))) (pss_cons (ps_if (pt_cmpR op_eq (pv 3) (pe_callB (klen K) (by rfl) T.z_len (by decide +kernel) (pa_cons (pv 0) pa_nil)) (nomark _)) (pss_one (ps_break)) pss_nil)
    (pss_one (ps_if (pt_cmpR op_eq (pv 5) (pe_ix (kixt K) (pv 0) (pv 3) (fun _ _ => rfl)) (nomark _)) (pss_one (ps_aug (i := 3) sc_chosen_rank.nd rfl (Or.inl rfl) pe_int ip_add)) (pss_one (ps_aug (i := 2) sc_chosen_rank.nd rfl (Or.inl rfl) (pe_callBfun cr_comb rfl T.c_comb (pa_cons (pe_op op_sub (pe_op op_sub (pe_callB (klen K) (by rfl) T.z_len (by decide +kernel) (pa_cons (pv 1) pa_nil)) (pv 4)) pe_int) (pa_cons (pe_op op_sub (pe_op op_sub (pe_callB (klen K) (by rfl) T.z_len (by decide +kernel) (pa_cons (pv 0) pa_nil)) (pv 3)) pe_int) pa_nil))) ip_add))))))
    (pss_one (ps_ret (pv 2)))))), ?_⟩
  refine for_enum2 (p := 4) (q := 5) (H0 := H) (xs := ks.map V.int) (fun R r => ⟨_, rfl, r⟩) (.inl ha)
    (fun i σ H' => Ex H H' ∧ ∃ (f : Nat) (rr : Int) (x4 x5 : Option V), f ≤ cs.length ∧ crk cs ks = rr + crk (cs.drop f) (ks.drop i) ∧ σ = [some (.ref b), some (.ref a), some (.int rr), some (.int (f : Int)), x4, x5])
    ⟨Ex.refl _, 0, 0, _, _, Nat.zero_le _, by rw [List.drop_zero, List.drop_zero, Int.zero_add], rfl⟩ (fun i σ H' _ p => p.1) ?_ ?_
  · rintro i x σ H' t hx ⟨e, f, rr, x4, x5, hf, hm, rfl⟩ ht
    obtain ⟨z, hz, rfl⟩ := ints_get hx
    obtain ⟨hi, hzi⟩ := List.getElem?_eq_some_iff.mp hz
    have e1 := e.trans (Ex.new (o := .tup [.int (i : Int), .int z]) ht)
    refine ⟨_, rfl, _, rfl, _, cs.length, rfl, .inr ⟨_, ex_t e1 hb, by rw [List.length_map]⟩, rfl, _, rfl, ite2 (fun c => ?_) (fun c => ?_)⟩
    · have c' : ((f : Nat) : Int) = (cs.length : Int) := V.int.inj (of_decide_eq_true c)
      rw [List.drop_eq_nil_of_le (show cs.length ≤ f by omega), crk_nil, Int.add_zero] at hm
      refine ⟨_, rfl, ?_⟩
      rw [← hm]
      exact q _ e1
    · have c' : f ≠ cs.length := fun z => c (by rw [z]; exact decide_eq_true rfl)
      obtain ⟨v, hat, hg⟩ := at_get (xs := cs.map V.int) (k := (f : Int)) (by omega) (by rw [List.length_map]; omega)
      obtain ⟨y, hy, rfl⟩ := ints_get hg
      rw [Int.toNat_natCast] at hy
      obtain ⟨hfi, hyi⟩ := List.getElem?_eq_some_iff.mp hy
      rw [List.drop_eq_getElem_cons hi, hzi, List.drop_eq_getElem_cons hfi, hyi, crk_cons, List.length_drop, List.length_drop] at hm
      refine ⟨_, rfl, _, rfl, _, rfl, b, _, _, _, rfl, rfl, ex_t e1 hb, hat, rfl, _, rfl, ite2 (fun d => ?_) (fun d => ?_)⟩
      · have d' : z = y := V.int.inj (of_decide_eq_true d)
        rw [if_pos d'] at hm
        exact ⟨_, rfl, _, _, rfl, rfl, e1, f + 1, rr, _, _, by omega, hm, rfl⟩
      · have d' : z ≠ y := fun q => d (by rw [q]; exact decide_eq_true rfl)
        rw [if_neg d'] at hm
        refine ⟨_, rfl, _, rfl, _, ks.length, rfl, .inl ⟨_, ex_l e1 ha, by rw [List.length_map]⟩, _, rfl, _, _, rfl, rfl, _, _, rfl, rfl, _, rfl, _, cs.length, rfl, .inr ⟨_, ex_t e1 hb, by rw [List.length_map]⟩, _, rfl, _, _, rfl, rfl, _, _, rfl, rfl, _, _, rfl, by omega, by omega, by omega, by omega, _, _, rfl, rfl, ?_⟩
        have ec : PySem.W.mcComb ((ks.length : Int) - (i : Int) - 1) ((cs.length : Int) - (f : Int) - 1) = Cn (ks.length - (i + 1)) (cs.length - (f + 1)) := by
          unfold Cn
          congr 1 <;> omega
        rw [ec]
        refine ⟨e1, f, rr + Cn (ks.length - (i + 1)) (cs.length - (f + 1)), _, _, hf, ?_, rfl⟩
        rw [hm, List.drop_eq_getElem_cons hfi, hyi, Int.add_assoc]
  · rintro σ H' ⟨e, f, rr, x4, x5, hf, hm, rfl⟩
    rw [List.length_map, List.drop_length, crk_end, Int.add_zero] at hm
    refine ⟨_, rfl, ?_⟩
    rw [← hm]
    exact q _ e
end
end L2.U


set_option Elab.async false
set_option linter.all false
set_option maxRecDepth 100000
set_option maxHeartbeats 4000000
namespace L2.U
open PySem PySem.Spec PyProof.Rows Evl

section
variable {P : Program} {w : World} {K : PySem.W.Frag} {mg : Str → Option Value} {base : Heap}
theorem sub_filter : ∀ {cs ls : List Int}, cs.Sublist ls → ls.Nodup → (ls.filter fun z => !decide (z ∈ cs)).length + cs.length = ls.length := by
  intro cs ls h
  induction h with
  | slnil => intro _; rfl
  | @cons cs ls a h ih =>
    intro nd
    obtain ⟨n1, n2⟩ := List.nodup_cons.mp nd
    have na : a ∉ cs := fun z => n1 (h.mem z)
    rw [List.filter_cons, if_pos (by simp [na]), List.length_cons, List.length_cons]
    have := ih n2
    omega
  | @cons_cons cs ls a h ih =>
    intro nd
    obtain ⟨n1, n2⟩ := List.nodup_cons.mp nd
    rw [List.filter_cons, if_neg (by simp), List.length_cons, List.length_cons]
    have e : (ls.filter fun z => !decide (z ∈ a :: cs)) = ls.filter fun z => !decide (z ∈ cs) := by
      apply List.filter_congr
      intro z hz
      have : z ≠ a := fun q => n1 (q ▸ hz)
      simp [this]
    rw [e]
    have := ih n2
    omega
theorem behind_nodup {ks cs : List Int} {g : Int} (h : ks.Nodup) : (behindI ks cs g).Nodup := (h.filter _).sublist (List.drop_sublist _ _)
theorem behind_length {ls cs : List Int} {g : Int} (h : cs.Sublist ls) (nd : ls.Nodup) : (behindI ls cs g).length = ls.length - cs.length - g.toNat := by
  have := sub_filter h nd
  unfold behindI
  rw [List.length_drop]
  omega
/-- rows of ints: tuples of them -/
def RowsT (H : Hp) (xs : List V) (rs : List (List Int)) : Prop := xs.length = rs.length ∧ ∀ (j : Nat) (x : V) (ns : List Int), xs[j]? = some x → rs[j]? = some ns → ∃ p, x = .ref p ∧ H p = some (.tup (ns.map V.int))
theorem RowsT.ex {H H' : Hp} {xs : List V} {rs : List (List Int)} (r : RowsT H xs rs) (e : Ex H H') : RowsT H' xs rs := ⟨r.1, fun j x ns hx hn => by
  obtain ⟨p, h1, h2⟩ := r.2 j x ns hx hn
  exact ⟨p, h1, e _ _ h2⟩⟩
theorem RowsT.mut {H : Hp} {D : Addr} {ys zs : List V} {xs : List V} {rs : List (List Int)} (r : RowsT H xs rs) (h : H D = some (.lst ys)) : RowsT (upd H D (.lst zs)) xs rs := ⟨r.1, fun j x ns hx hn => by
  obtain ⟨p, h1, h2⟩ := r.2 j x ns hx hn
  exact ⟨p, h1, by rw [upd_ne (by rintro rfl; rw [h] at h2; cases h2)]; exact h2⟩⟩
theorem RowsT.nil {H : Hp} : RowsT H [] [] := ⟨rfl, fun j x ns hx _ => by cases hx⟩
theorem RowsT.snoc {H : Hp} {xs : List V} {rs : List (List Int)} {p : Addr} {ns : List Int} (r : RowsT H xs rs) (h : H p = some (.tup (ns.map V.int))) : RowsT H (xs ++ [.ref p]) (rs ++ [ns]) := by
  refine ⟨by rw [List.length_append, List.length_append, r.1]; rfl, fun j x ms hx hn => ?_⟩
  by_cases c : j < xs.length
  · rw [List.getElem?_append_left c] at hx
    rw [List.getElem?_append_left (by rw [← r.1]; exact c)] at hn
    exact r.2 j x ms hx hn
  · have hj := (List.getElem?_eq_some_iff.mp hx).1
    rw [List.length_append, List.length_singleton] at hj
    have e1 : j = xs.length := by omega
    subst e1
    rw [List.getElem?_append_right (Nat.le_refl _), Nat.sub_self] at hx
    rw [r.1, List.getElem?_append_right (Nat.le_refl _), Nat.sub_self] at hn
    cases Option.some.inj hx
    cases Option.some.inj hn
    exact ⟨p, rfl, h⟩
def rndA (g : Int) : List Int → List Int → Int → List (List Int)
  | _, [], _ => []
  | ks, s :: ss, r => chA ks (r / manyI ((ks.length : Int) - s - g) ss g) s.toNat :: rndA g (behindI ks (chA ks (r / manyI ((ks.length : Int) - s - g) ss g) s.toNat) g) ss (r % manyI ((ks.length : Int) - s - g) ss g)
theorem rndA_cons {g s r : Int} {ks ss : List Int} : rndA g ks (s :: ss) r = chA ks (r / manyI ((ks.length : Int) - s - g) ss g) s.toNat :: rndA g (behindI ks (chA ks (r / manyI ((ks.length : Int) - s - g) ss g) s.toNat) g) ss (r % manyI ((ks.length : Int) - s - g) ss g) := rfl
def spRoundsAt (K : PySem.W.Frag) : Sp := fun vs H Q _ => ∃ (r : Int) (a b : Addr) (ks ss : List Int) (g : Int), vs = [.int r, .ref a, .ref b, .int g] ∧ (SqL K H a (ks.map V.int) ∨ SqT K H a (ks.map V.int)) ∧ (SqL K H b (ss.map V.int) ∨ SqT K H b (ss.map V.int)) ∧ ks.Nodup ∧ ks.length ≤ 16 ∧ ss.length ≤ 16 ∧ (∀ z ∈ ss, 1 ≤ z) ∧ (g = 0 ∨ g = 1) ∧
  0 ≤ r ∧ r < manyI (ks.length : Int) ss g ∧ ∀ (p : Addr) (xs : List V) H', Ex H H' → H' p = some (.tup xs) → RowsT H' xs (rndA g ks ss r) → Q (.ref p) H'
theorem ok_rounds_at (T : TA2 K mg) : FnOk P w K mg base CX0 2 T.rounds_at.a T.rounds_at.fd ["rank", "kinds", "sizes", "gap"] (spRoundsAt K) := by
  refine T.rounds_at.F.ok sc_rounds_at (fun vs H Q E h => ?_) (fun cdv A outer s H vs Q E hr h => ?_)
  · obtain ⟨r, a, b, ks, ss, g, rfl, _⟩ := h; rfl
  obtain ⟨r, a, b, ks, ss, g, rfl, ha, hb, nd, hk, hss, hs1, hg, r0, r1, q⟩ := h
  refine ⟨_, (pss_cons (ps_set (i := 4) sc_rounds_at.nd rfl (Or.inl rfl) (pe_lst pa_nil))
    (pss_cons (ps_set (i := 5) sc_rounds_at.nd rfl (Or.inl rfl) (pe_callTy (klist K) (by rfl) T.z_list (by decide +kernel) (pa_cons (pv 1) pa_nil)))
    (pss_cons (ps_for PassesOwn.never rfl (pi_enumS (by rfl) T.z_enumerate (pa_cons (pv 2) pa_nil)) (pg_tup (by rfl) (pgs_cons (pg_name (i := 6) sc_rounds_at.nd rfl (Or.inl rfl)) (pgs_cons (pg_name (i := 7) sc_rounds_at.nd rfl (Or.inl rfl)) pgs_nil))) (pss_cons (ps_set (i := 8) sc_rounds_at.nd rfl (Or.inl rfl) (pe_call (ok_many T) (hr.mono (by decide)) rfl T.many.m T.many.F.kp T.many.b .nil pass0 (pa_cons (pe_op op_sub (pe_op op_sub (pe_callB (klen K) (by rfl) T.z_len (by decide +kernel) (pa_cons (pv 5) pa_nil)) (pv 7)) (pv 3)) (pa_cons (pe_slice (kslS K) (pv 2) (po_some (pe_op op_add (pv 6) pe_int)) po_none) (pa_cons (pv 3) pa_nil)))))
    (pss_cons (ps_set (i := 9) sc_rounds_at.nd rfl (Or.inl rfl) (pe_call (ok_chosen_at T) (hr.mono (by decide)) rfl T.chosen_at.m T.chosen_at.F.kp T.chosen_at.b .nil pass0 (pa_cons (pe_op op_fdivW (pv 0) (pv 8)) (pa_cons (pv 5) (pa_cons (pv 7) pa_nil)))))
    (pss_cons (ps_set (i := 0) sc_rounds_at.nd rfl (Or.inl rfl) (pe_op op_mod (pv 0) (pv 8)))
    (pss_cons (ps_set (i := 5) sc_rounds_at.nd rfl (Or.inl rfl) (pe_call (ok_behind T) (hr.mono (by decide)) rfl T.behind.m T.behind.F.kp T.behind.b .nil pass0 (pa_cons (pv 5) (pa_cons (pv 9) (pa_cons (pv 3) pa_nil)))))
    (pss_one (ps_expr (pe_bm PySem.F.plainAttrs_list PySem.F.slot_list_append PySem.F.type_list_append mt_append (pv 4) (pa_cons (pv 9) pa_nil)))))))))
    (pss_one (ps_ret (pe_callTy (ktuple K) (by rfl) T.z_tuple (by decide +kernel) (pa_cons (pv 4) pa_nil))))))), ?_⟩
  refine ⟨Nat.zero_le _, fun RD hRD => ?_⟩
  have e0 := Ex.new (o := .lst []) hRD
  refine ⟨_, rfl, a, _, rfl, ha.imp (ex_l e0) (ex_t e0), fun L hL => ?_⟩
  have e1 := e0.trans (Ex.new (o := .lst (ks.map V.int)) hL)
  have nR : RD ≠ L := by rintro rfl; rw [upd_same] at hL; cases hL
  refine for_enum2 (p := 6) (q := 7) (H0 := H) (xs := ss.map V.int) (fun R r => ⟨_, rfl, r⟩) hb
    (fun i σ H' => Ex H H' ∧ ∃ (ls : List Int) (rr : Int) (Lp : Addr) (xs : List V) (dn : List (List Int)) (x6 x7 x8 x9 : Option V), H' RD = some (.lst xs) ∧ RowsT H' xs dn ∧ rndA g ks ss r = dn ++ rndA g ls (ss.drop i) rr ∧ xs.length ≤ i ∧ H' Lp = some (.lst (ls.map V.int)) ∧ ls.Nodup ∧ ls.length ≤ 16 ∧ 0 ≤ rr ∧ rr < manyI (ls.length : Int) (ss.drop i) g ∧
      σ = [some (.int rr), some (.ref a), some (.ref b), some (.int g), some (.ref RD), some (.ref Lp), x6, x7, x8, x9])
    ⟨e1, ks, r, L, [], [], _, _, _, _, by rw [upd_ne nR, upd_same], RowsT.nil, rfl, Nat.le_refl _, upd_same, nd, hk, r0, r1, rfl⟩ (fun i σ H' _ p => p.1) ?_ ?_
  · rintro i x σ H' t hx ⟨e, ls, rr, Lp, xs, dn, x6, x7, x8, x9, hR, hrw, hdn, hxl, hLp, nd2, hl16, rr0, rr1, rfl⟩ ht
    obtain ⟨z, hz, rfl⟩ := ints_get hx
    obtain ⟨hi, hzi⟩ := List.getElem?_eq_some_iff.mp hz
    have eN := Ex.new (o := .tup [.int (i : Int), .int z]) ht
    have e2 := e.trans eN
    have hR2 := eN _ _ hR
    have hrw2 := hrw.ex eN
    have hL2 := eN _ _ hLp
    generalize upd H' t (.tup [.int (i : Int), .int z]) = H2 at e2 hR2 hL2 hrw2 ⊢
    have z1 := hs1 z (List.mem_of_getElem? hz)
    obtain ⟨s, rfl⟩ : ∃ s : Nat, z = (s : Int) := ⟨z.toNat, by omega⟩
    have hd : ss.drop i = (s : Int) :: ss.drop (i + 1) := by rw [List.drop_eq_getElem_cons hi, hzi]
    rw [hd, manyI_cons] at rr1
    have hls : ¬ ((ls.length : Int) < (s : Int)) := by
      intro c
      rw [if_pos c] at rr1
      omega
    rw [if_neg hls] at rr1
    have hs' : ∀ z ∈ ss.drop (i + 1), 1 ≤ z := fun z hz => hs1 z (List.mem_of_mem_drop hz)
    obtain ⟨M, hM⟩ : ∃ M, M = manyI ((ls.length : Int) - (s : Int) - g) (ss.drop (i + 1)) g := ⟨_, rfl⟩
    have eM : M = manyI (((ls.length - s - g.toNat : Nat)) : Int) (ss.drop (i + 1)) g := by
      rw [hM]
      by_cases c : (ls.length : Int) - (s : Int) - g < 0
      · rw [many_neg c hs', show ls.length - s - g.toNat = 0 by omega]; rfl
      · congr 1
        omega
    have Mle := many_le (g := g) (by omega) (ss.drop (i + 1)) (ls.length - s - g.toNat) (by omega) hs'
    rw [← eM] at Mle
    rw [← hM] at rr1
    have cp := cn_pos ⟨ls.length, by omega⟩ ⟨s, by omega⟩
    simp only at cp
    have rr1' : rr < Cn ls.length s * M := rr1
    have M1 : 1 ≤ M := by
      by_cases c : M = 0
      · rw [c, Int.mul_zero] at rr1'; omega
      · omega
    have Mtop : M ≤ 20922789888000 := by
      have := (fc_mono (show ls.length - s - g.toNat ≤ 16 by omega) (Nat.le_refl _)).2
      rw [fc_top] at this
      omega
    have dlt : rr / M < Cn ls.length s := Int.ediv_lt_of_lt_mul (by omega) rr1'
    have d0 : 0 ≤ rr / M := Int.ediv_nonneg rr0 (by omega)
    -- further
    have cut : cutV (ss.map V.int) (some ((i : Int) + 1)) none = (ss.drop (i + 1)).map V.int := by
      have := cut_from (xs := ss.map V.int) (k := i + 1)
      rw [show (((i + 1 : Nat)) : Int) = (i : Int) + 1 by omega] at this
      rw [this, List.map_drop]
    have not0 : ¬ (HT.sIx (ss.map V.int).length 0 (some ((i : Int) + 1)) = 0 ∧ HT.sIx (ss.map V.int).length (ss.map V.int).length none = (ss.map V.int).length) := by
      rintro ⟨h1, _⟩
      have := HT.sIx_nat (ss.map V.int).length 0 (i + 1)
      rw [show (((i + 1 : Nat)) : Int) = (i : Int) + 1 by omega] at this
      rw [this, List.length_map] at h1
      omega
    have body : ∀ (H3 : Hp), Ex H2 H3 → ∀ σ' : L2.St, σ' = [some (.int rr), some (.ref a), some (.ref b), some (.int g), some (.ref RD), some (.ref Lp), some (.int (i : Int)), some (.int (s : Int)), some (.int M), x9] → ∀ D : Ends, (∀ σ'' H'', (Ex H H'' ∧ ∃ (ls : List Int) (rr : Int) (Lp : Addr) (xs : List V) (dn : List (List Int)) (x6 x7 x8 x9 : Option V), H'' RD = some (.lst xs) ∧ RowsT H'' xs dn ∧ rndA g ks ss r = dn ++ rndA g ls (ss.drop (i + 1)) rr ∧ xs.length ≤ i + 1 ∧ H'' Lp = some (.lst (ls.map V.int)) ∧ ls.Nodup ∧ ls.length ≤ 16 ∧ 0 ≤ rr ∧ rr < manyI (ls.length : Int) (ss.drop (i + 1)) g ∧
      σ'' = [some (.int rr), some (.ref a), some (.ref b), some (.int g), some (.ref RD), some (.ref Lp), x6, x7, x8, x9]) → D.nx σ'' H'') →
      tSeq (tAsg (tCall (spChAt K) [] E0 (tCons (tOp (rI CDivW fun i j => .int (i / j)) (tVar 0) (tVar 8)) (tCons (tVar 5) (tCons (tVar 7) tNil)))) (gName 9))
        (tSeq (tAsg (tOp (rI (fun _ j => 0 < j) fun i j => .int (i % j)) (tVar 0) (tVar 8)) (gName 0))
          (tSeq (tAsg (tCall (spBehind K) [] E0 (tCons (tVar 5) (tCons (tVar 9) (tCons (tVar 3) tNil)))) (gName 5))
            (tDrop (tBM K "list" rAppend (tVar 4) (tCons (tVar 9) tNil))))) D σ' H3 := by
      rintro H3 e3 σ' rfl D k
      refine ⟨_, rfl, _, rfl, _, _, rfl, rfl, ⟨by omega, log_small (by omega) Mtop⟩, _, rfl, _, rfl, rr / M, Lp, ls, s, rfl, SqL.of (e3 _ _ hL2), hl16, by omega, d0, dlt, fun p H5 e5 hp => ?_⟩
      obtain ⟨sub, hcl⟩ := chA_sub ls (rr / M) s hl16 (by omega) d0 dlt
      rw [hd, rndA_cons, Int.toNat_natCast, ← hM] at hdn
      generalize chA ls (rr / M) s = cs at hp sub hcl hdn
      refine ⟨_, rfl, _, rfl, _, _, rfl, rfl, (show (0 : Int) < M by omega), ?_⟩
      refine ⟨_, rfl, _, rfl, _, rfl, Lp, p, ls, cs, g, rfl, .inl (SqL.of (e5 _ _ (e3 _ _ hL2))), SqT.of hp, by omega, hg, fun p2 H6 e6 hp20 h6 => ?_⟩
      have hR6 := e6 _ _ (e5 _ _ (e3 _ _ hR2))
      have e26 := ((e2.trans e3).trans e5).trans e6
      have nRp : p2 ≠ RD := by
        rintro rfl
        rw [e5 _ _ (e3 _ _ hR2)] at hp20
        cases hp20
      have bl := behind_length (g := g) sub nd2
      rw [hcl] at bl
      refine ⟨_, rfl, .inl ⟨rfl, _, SqL.of hR6⟩, _, rfl, RD, _, _, rfl, rfl, hR6, small1000 (by omega), k _ _ ⟨e26.mut hRD, behindI ls cs g, rr % M, p2, xs ++ [.ref p], dn ++ [cs], _, _, _, _, upd_same, (((hrw2.ex e3).ex e5).ex e6 |>.snoc (e6 _ _ hp)).mut hR6, (by rw [hdn, List.append_assoc]; rfl), by rw [List.length_append, List.length_singleton]; omega, by rw [upd_ne nRp]; exact h6, behind_nodup nd2, by rw [bl]; omega, Int.emod_nonneg _ (by omega), ?_, rfl⟩⟩
      rw [bl, ← eM]
      exact Int.emod_lt_of_pos _ (by omega)
    refine ⟨_, rfl, _, ls.length, rfl, .inl ⟨_, SqL.of hL2, by rw [List.length_map]⟩, _, rfl, _, _, rfl, rfl, _, rfl, _, _, rfl, rfl, ?_⟩
    refine ⟨_, rfl, _, rfl, _, _, rfl, rfl, _, rfl, ?_⟩
    rcases hb with hb' | hb'
    · refine .inl ⟨b, _, rfl, ex_l e2 hb', fun c hc => ?_⟩
      refine ⟨_, rfl, _, g, c, ss.drop (i + 1), rfl, .inl (SqL.of (by rw [upd_same, cut])), by omega, by omega, hs', ?_⟩
      rw [← hM]
      exact body _ (Ex.new hc) _ rfl _ (fun σ'' H'' z => z)
    · refine .inr ⟨b, _, rfl, ex_t e2 hb', fun z => absurd z not0, fun _ c hc => ?_⟩
      refine ⟨_, rfl, _, g, c, ss.drop (i + 1), rfl, .inr (SqT.of (by rw [upd_same, cut])), by omega, by omega, hs', ?_⟩
      rw [← hM]
      exact body _ (Ex.new hc) _ rfl _ (fun σ'' H'' z => z)
  · rintro σ H' ⟨e, ls, rr, Lp, xs, dn, x6, x7, x8, x9, hR, hrw, hdn, hxl, hLp, nd2, hl16, rr0, rr1, rfl⟩
    rw [List.length_map, List.drop_length] at hdn
    have hdn' : rndA g ks ss r = dn := by rw [hdn]; exact List.append_nil _
    exact ⟨_, rfl, RD, _, rfl, .inl ⟨SqL.of hR, fun l hl => q l xs _ (e.trans (Ex.new hl)) upd_same (by rw [hdn']; exact hrw.ex (Ex.new hl))⟩⟩
end
end L2.U


set_option Elab.async false
set_option linter.all false
set_option maxRecDepth 100000
set_option maxHeartbeats 4000000
namespace L2.U
open PySem PySem.Spec PyProof.Rows Evl

section
variable {P : Program} {w : World} {K : PySem.W.Frag} {mg : Str → Option Value} {base : Heap}
theorem nodup_len : ∀ {xs ys : List Int}, xs.Nodup → (∀ x ∈ xs, x ∈ ys) → xs.length ≤ ys.length
  | [], _, _, _ => Nat.zero_le _
  | x :: r, ys, nd, h => by
    have n1 := List.nodup_cons.mp nd
    have m := h x (by simp)
    have := nodup_len (xs := r) (ys := ys.erase x) n1.2 (fun z hz => by
      have hne : z ≠ x := fun e => n1.1 (e ▸ hz)
      exact (List.mem_erase_of_ne hne).mpr (h z (by simp [hz])))
    rw [List.length_erase_of_mem m] at this
    have := List.length_pos_of_mem m
    simp only [List.length_cons]
    omega
theorem asc_pair : ∀ (ds : List PyData), (∀ d ∈ ds, ∃ i, d = .int i) → ascD ds = true → (ds.map intD).Pairwise (· < ·)
  | [], _, _ => .nil
  | [d], _, _ => by simp
  | a :: b :: r, hi, h => by
    obtain ⟨x, rfl⟩ := hi a (by simp)
    obtain ⟨y, rfl⟩ := hi b (by simp)
    have h' := List.all_eq_true.mp h
    have h0 : x < y := of_decide_eq_true (h' 0 (by rw [List.mem_range]; simp))
    have ih := asc_pair (.int y :: r) (fun d hd => hi d (List.mem_cons_of_mem _ hd)) (by
      unfold ascD
      rw [List.all_eq_true]
      intro i hir
      rw [List.mem_range] at hir
      have := h' (i + 1) (by rw [List.mem_range]; simp only [List.length_cons] at hir ⊢; omega)
      exact this)
    rw [List.map_cons]
    refine List.pairwise_cons.mpr ⟨fun z hz => ?_, ih⟩
    have ih2 := List.pairwise_cons.mp ih
    rcases List.mem_cons.mp hz with rfl | hz
    · exact h0
    · exact Int.lt_trans h0 (ih2.1 z hz)
/-- what is chosen: so many different ones of the kinds -/
theorem chosen_facts {ks : List Int} {d : PyData} (c : chosenD ks d = true) : (intsOf d).Nodup ∧ (∀ z ∈ intsOf d, z ∈ ks) ∧ 1 ≤ (intsOf d).length := by
  cases d with
  | tuple ds =>
    have c' : (!ds.isEmpty && ds.all (inD ks) && ascD ds) = true := c
    simp only [Bool.and_eq_true] at c'
    obtain ⟨⟨c1, c2⟩, c3⟩ := c'
    have isn : ∀ d ∈ ds, ∃ i, d = .int i := fun d hd => by
      have := List.all_eq_true.mp c2 d hd
      cases d <;> first | exact ⟨_, rfl⟩ | cases this
    refine ⟨?_, fun z hz => ?_, ?_⟩
    · exact (asc_pair ds isn c3).imp (fun h => Int.ne_of_lt h)
    · obtain ⟨d, hd, rfl⟩ := List.mem_map.mp hz
      obtain ⟨i, rfl⟩ := isn d hd
      exact of_decide_eq_true (List.all_eq_true.mp c2 _ hd)
    · cases ds with
      | nil => cases c1
      | cons a r => show 1 ≤ (List.map intD (a :: r)).length; simp
  | none => cases c
  | bool _ => cases c
  | int _ => cases c
  | str _ => cases c
  | list _ => cases c
  | dict _ => cases c
theorem behind_le {ls cs : List Int} {g : Int} (nd : ls.Nodup) (cd : cs.Nodup) (h : ∀ z ∈ cs, z ∈ ls) : (behindI ls cs g).length + cs.length ≤ ls.length ∧ cs.length ≤ ls.length ∧ ((ls.filter fun z => !decide (z ∈ cs)).length + cs.length ≤ ls.length) := by
  have h1 : ((ls.filter fun z => !decide (z ∈ cs)) ++ cs).Nodup := by
    rw [List.nodup_append]
    refine ⟨nd.filter _, cd, fun a ha b hb e => ?_⟩
    have := (List.mem_filter.mp ha).2
    rw [e] at this
    simp [hb] at this
  have h2 := nodup_len (ys := ls) h1 (fun z hz => by
    rcases List.mem_append.mp hz with hz | hz
    · exact (List.mem_filter.mp hz).1
    · exact h z hz)
  rw [List.length_append] at h2
  refine ⟨?_, by omega, h2⟩
  unfold behindI
  rw [List.length_drop]
  omega
def rnkA (g : Int) : List Int → List (List Int) → Int → Int
  | _, [], acc => acc
  | ks, c :: cs, acc => rnkA g (behindI ks c g) cs (acc * Cn ks.length c.length + crk c ks)
theorem rnkA_cons {g acc : Int} {ks c : List Int} {cs : List (List Int)} : rnkA g ks (c :: cs) acc = rnkA g (behindI ks c g) cs (acc * Cn ks.length c.length + crk c ks) := rfl
def spRankAt (K : PySem.W.Frag) : Sp := fun vs H Q _ => ∃ (x : V) (a : Addr) (d : PyData) (n : Nat) (ok : Addr → Prop) (ks : List Int) (g : Int), vs = [x, .ref a, .int g] ∧ Rd K ok H n x d ∧ (SqL K H a (ks.map V.int) ∨ SqT K H a (ks.map V.int)) ∧ ks.Nodup ∧ ks.length ≤ 16 ∧ (g = 0 ∨ g = 1) ∧ roundsD ks g d = true ∧
  ∀ H', Ex H H' → Q (.int (rnkA g ks ((itemsD d).map intsOf) 0)) H'
theorem rd_tup {ok : Addr → Prop} {H : Hp} {n : Nat} {x : V} {ks : List Int} {g : Int} {d : PyData} (h : Rd K ok H n x d) (c : roundsD ks g d = true) : ∃ b xs ds m, x = .ref b ∧ d = .tuple ds ∧ SqT K H b xs ∧ RdL K ok H m xs ds ∧ xs.length ≤ 900 ∧ roundsL ks ds g = true := by
  cases h with
  | tup h1 ha hl hz all => exact ⟨_, _, _, _, rfl, rfl, h1, ⟨hl, all⟩, hz, c⟩
  | non => cases c
  | bl _ => cases c
  | int _ => cases c
  | str _ _ _ => cases c
  | lst _ _ _ _ _ => cases c
theorem ok_rank_at (T : TA2 K mg) : FnOk P w K mg base CX0 2 T.rank_at.a T.rank_at.fd ["rounds", "kinds", "gap"] (spRankAt K) := by
  refine T.rank_at.F.ok sc_rank_at (fun vs H Q E h => ?_) (fun cdv A outer s H vs Q E hr h => ?_)
  · obtain ⟨x, a, d, n, ok, ks, g, rfl, _⟩ := h; rfl
  obtain ⟨x, a, d, n, ok, ks, g, rfl, hx, ha, nd, hk, hg, hrd, q⟩ := h
  refine ⟨_, (pss_cons (ps_set (i := 3) sc_rank_at.nd rfl (Or.inl rfl) pe_int)
    (pss_cons (ps_set (i := 4) sc_rank_at.nd rfl (Or.inl rfl) (pe_callTy (klist K) (by rfl) T.z_list (by decide +kernel) (pa_cons (pv 1) pa_nil)))
    (pss_cons (ps_for PassesOwn.never rfl (pi_enumS (by rfl) T.z_enumerate (pa_cons (pv 0) pa_nil)) (pg_tup (by rfl) (pgs_cons (pg_name (i := 5) sc_rank_at.nd rfl (Or.inl rfl)) (pgs_cons (pg_name (i := 6) sc_rank_at.nd rfl (Or.inl rfl)) pgs_nil))) (pss_cons (ps_aug (i := 3) sc_rank_at.nd rfl (Or.inl rfl) (pe_call (ok_many_chosen T) (hr.mono (by decide)) rfl T.many_chosen.m T.many_chosen.F.kp T.many_chosen.b .nil pass0 (pa_cons (pv 4) (pa_cons (pv 6) pa_nil))) ip_mulC)
    (pss_cons (ps_aug (i := 3) sc_rank_at.nd rfl (Or.inl rfl) (pe_call (ok_chosen_rank T) (hr.mono (by decide)) rfl T.chosen_rank.m T.chosen_rank.F.kp T.chosen_rank.b .nil pass0 (pa_cons (pv 6) (pa_cons (pv 4) pa_nil))) ip_add)
    (pss_one (ps_set (i := 4) sc_rank_at.nd rfl (Or.inl rfl) (pe_call (ok_behind T) (hr.mono (by decide)) rfl T.behind.m T.behind.F.kp T.behind.b .nil pass0 (pa_cons (pv 4) (pa_cons (pv 6) (pa_cons (pv 2) pa_nil)))))))))
    (pss_one (ps_ret (pv 3)))))), ?_⟩
  obtain ⟨b, xs, ds, m, rfl, rfl, hb, rl, hz, hrl⟩ := rd_tup hx hrd
  refine ⟨_, rfl, a, _, rfl, ha, fun L hL => ?_⟩
  have e1 := Ex.new (o := .lst (ks.map V.int)) hL
  refine for_enum2 (p := 5) (q := 6) (H0 := H) (xs := xs) (fun R r => ⟨_, rfl, r⟩) (.inr hb)
    (fun i σ H' => Ex H H' ∧ ∃ (ls : List Int) (rr : Int) (Lp : Addr) (x5 x6 : Option V), H' Lp = some (.lst (ls.map V.int)) ∧ ls.Nodup ∧ ls.length ≤ 16 ∧ roundsL ls (ds.drop i) g = true ∧ rnkA g ks (ds.map intsOf) 0 = rnkA g ls ((ds.drop i).map intsOf) rr ∧ σ = [some (.ref b), some (.ref a), some (.int g), some (.int rr), some (.ref Lp), x5, x6])
    ⟨e1, ks, 0, L, _, _, upd_same, nd, hk, hrl, rfl, rfl⟩ (fun i σ H' _ p => p.1) ?_ ?_
  · rintro i x σ H' t hxi ⟨e, ls, rr, Lp, x5, x6, hLp, nd2, hl16, hr2, hm, rfl⟩ ht
    have hi := (List.getElem?_eq_some_iff.mp hxi).1
    have hd : ds[i]? = some (ds[i]'(by have := rl.1; omega)) := List.getElem?_eq_getElem _
    have r0 := rl.2 i x _ hxi hd
    rw [List.drop_eq_getElem_cons (show i < ds.length by have := rl.1; omega)] at hr2 hm
    rw [roundsL_cons, Bool.and_eq_true] at hr2
    rw [List.map_cons, rnkA_cons] at hm
    generalize ds[i]'(by have := rl.1; omega) = d0 at hd r0 hr2 hm
    obtain ⟨hc, hr3⟩ := hr2
    have eN := Ex.new (o := .tup [.int (i : Int), x]) ht
    have e2 := e.trans eN
    have hL2 := eN _ _ hLp
    generalize upd H' t (.tup [.int (i : Int), x]) = H2 at e2 hL2 ⊢
    obtain ⟨c, rfl, hcc⟩ := chosen_ints (r0.ex e2) hc
    obtain ⟨cn, cin, c1⟩ := chosen_facts hc
    obtain ⟨b1, b2, _⟩ := behind_le (g := g) nd2 cn cin
    have cp := cn_pos ⟨ls.length, by omega⟩ ⟨(intsOf d0).length, by omega⟩
    simp only at cp
    refine ⟨_, rfl, _, rfl, _, rfl, Lp, c, ls, intsOf d0, rfl, SqL.of hL2, hcc, by omega, by omega, _, _, rfl, rfl, .inr ⟨by omega, by omega⟩, ?_⟩
    refine ⟨_, rfl, _, rfl, _, rfl, Lp, c, ls, intsOf d0, rfl, SqL.of hL2, hcc, hl16, b2, fun H3 e3 => ⟨_, _, rfl, rfl, ?_⟩⟩
    refine ⟨_, rfl, _, rfl, _, rfl, Lp, c, ls, intsOf d0, g, rfl, .inl (SqL.of (e3 _ _ hL2)), ex_t e3 hcc, by omega, hg, fun p2 H6 e6 _ h6 => ?_⟩
    exact ⟨(e2.trans e3).trans e6, behindI ls (intsOf d0) g, rr * Cn ls.length (intsOf d0).length + crk (intsOf d0) ls, p2, _, _, h6, behind_nodup nd2, by omega, hr3, hm, rfl⟩
  · rintro σ H' ⟨e, ls, rr, Lp, x5, x6, hLp, nd2, hl16, hr2, hm, rfl⟩
    rw [List.drop_eq_nil_of_le (show ds.length ≤ xs.length by have := rl.1; omega)] at hm
    refine ⟨_, rfl, ?_⟩
    have hm' : rnkA g ks (ds.map intsOf) 0 = rr := hm
    rw [← hm']
    exact q _ e
theorem kinds_nodup {d : PyData} (c : kindsD d = true) : (numsD d).Nodup := by
  unfold kindsD at c
  simp only [Bool.and_eq_true] at c
  obtain ⟨⟨⟨c1, c2⟩, c3⟩, c4⟩ := c
  have isn : ∀ e ∈ itemsD d, ∃ i, e = .int i := fun e he => betw_isint e (List.all_eq_true.mp c3 e he)
  exact (asc_pair _ isn c4).imp (fun h => Int.ne_of_lt h)
theorem rounds_rd {ok : Addr → Prop} {H : Hp} {n : Nat} {x : V} {ks : List Int} {g : Int} {d : PyData} (h : RdA K ok H n x d) (c : roundsD ks g d = true) : Rd K ok H n x d := by
  rcases h with h | ⟨a, rfl, rfl, _⟩
  · exact h
  · cases c
theorem cut_last {xs : List V} : cutV xs none (some (-1)) = xs.take (xs.length - 1) := by
  unfold cutV
  rw [HT.sIx_none]
  show (xs.drop 0).take ((if (-1 : Int) < 0 then ((-1 : Int) + (xs.length : Int)).toNat else min (-1 : Int).toNat xs.length) - 0) = _
  rw [if_pos (by decide), List.drop_zero]
  congr 1
  omega
/-- the least of what each round but the last left -/
def ansI : List Int → List (List Int) → List Int
  | _, [] => []
  | _, [_] => []
  | ks, c :: d :: cs => (behindI ks c 0).getD 0 0 :: ansI (behindI ks c 1) (d :: cs)
theorem ansI_one {ks c : List Int} : ansI ks [c] = [] := rfl
theorem ansI_cons {ks c d : List Int} {cs : List (List Int)} : ansI ks (c :: d :: cs) = (behindI ks c 0).getD 0 0 :: ansI (behindI ks c 1) (d :: cs) := rfl
def spAnsAt (K : PySem.W.Frag) (CK CR : Addr) : Sp := fun vs H Q E => ∃ (x y : V) (dx dy : PyData) (n : Nat) (ok : Addr → Prop), vs = [x, y] ∧ RdA K ok H n x dx ∧ RdA K ok H n y dy ∧ n ≤ 20 ∧
  (kindsD dy = true → roundsD (numsD dy) 1 dx = true → ∀ (p : Addr) H', Ex H H' → H' p = some (.tup ((ansI (numsD dy) ((itemsD dx).map intsOf)).map V.int)) → Q (.ref p) H') ∧
  (kindsD dy = false → ∀ e H', Ex H H' → H' e = some (.xd [("given", y)]) → E (.ref CK) (some e) H') ∧
  (kindsD dy = true → roundsD (numsD dy) 1 dx = false → ∀ e H', Ex H H' → H' e = some (.xd [("given", x)]) → E (.ref CR) (some e) H')
theorem ok_answers_of (T : TA2 K mg) : FnOk P w K mg base (L2.CX P w) 7 T.answers_of.a T.answers_of.fd ["rounds", "wires"] (spAnsAt K T.InvalidKinds.C T.InvalidRounds.C) := by
  refine T.answers_of.F.okX sc_answers_of (fun vs H Q E h => ?_) (fun cdv A outer s H vs Q E hr h => ?_)
  · obtain ⟨x, y, dx, dy, n, ok, rfl, _⟩ := h; rfl
  obtain ⟨x, y, dx, dy, n, ok, rfl, hx, hy, hn, q, qk, qr⟩ := h
  refine ⟨_, (pss_cons (ps_expr (by exact (pe_callS (ok_check_rounds T) (hr.mono (by decide)) rfl T.check_rounds.m T.check_rounds.F.kp T.check_rounds.b (fun σ => passAt (takes_of rfl rfl rfl rfl) σ) (pa_cons (pv 0) (pa_cons (pv 1) (pa_cons (pe_glob (v := .int 1) rfl T.c_ON_WIRES ⟨_, rfl⟩) pa_nil))))))
    (pss_cons (ps_set (i := 2) sc_answers_of.nd rfl (Or.inl rfl) (pe_lst pa_nil))
    (pss_cons (ps_set (i := 3) sc_answers_of.nd rfl (Or.inl rfl) (pe_callTy (klist K) (by rfl) T.z_list (by decide +kernel) (pa_cons (pv 1) pa_nil)))
    (pss_cons (ps_for (passes_of rfl) rfl (kpit K (pe_slice (kslT K) (pv 0) po_none (po_some (pe_un un_neg pe_int)))) (pg_name (i := 4) sc_answers_of.nd rfl (Or.inl rfl)) (pss_cons (ps_expr (pe_bm PySem.F.plainAttrs_list PySem.F.slot_list_append PySem.F.type_list_append mt_append (pv 2) (pa_cons (pe_ix (kixl K) (pe_call (ok_behind T) (hr.mono (by decide)) rfl T.behind.m T.behind.F.kp T.behind.b .nil pass0 (pa_cons (pv 3) (pa_cons (pv 4) (pa_cons pe_int pa_nil)))) pe_int (fun _ _ => rfl)) pa_nil)))
    (pss_one (ps_set (i := 3) sc_answers_of.nd rfl (Or.inl rfl) (pe_call (ok_behind T) (hr.mono (by decide)) rfl T.behind.m T.behind.F.kp T.behind.b .nil pass0 (pa_cons (pv 3) (pa_cons (pv 4) (pa_cons (pe_glob (v := .int 1) rfl T.c_ON_WIRES ⟨_, rfl⟩) pa_nil))))))))
    (pss_one (ps_ret (pe_callTy (ktuple K) (by rfl) T.z_tuple (by decide +kernel) (pa_cons (pv 2) pa_nil)))))))), ?_⟩
  refine ⟨_, rfl, _, rfl, x, y, dx, dy, n, ok, 1, rfl, hx, hy, hn, .inr rfl, fun ck cr H1 e1 => ?_, qk, qr⟩
  obtain ⟨b, xs, ds, m, rfl, rfl, hb, rl, hz, hrl⟩ := rd_tup (rounds_rd (hx.ex e1) cr) cr
  obtain ⟨a, rfl, ha, hk16, hk1⟩ := kinds_get ((hy.ex e1).rd (kinds_seq ck)) ck
  have nd := kinds_nodup ck
  have q' := q ck cr
  have eds : itemsD (.tuple ds) = ds := rfl
  rw [eds] at q'
  refine ⟨Nat.zero_le _, fun D hD => ?_⟩
  have e2 := Ex.new (o := .lst []) hD
  refine ⟨_, rfl, a, _, rfl, ha.imp (ex_l e2) (ex_t e2), fun L hL => ?_⟩
  have e3 := e2.trans (Ex.new (o := .lst ((numsD dy).map V.int)) hL)
  have nDL : D ≠ L := by rintro rfl; rw [upd_same] at hL; cases hL
  have hD3 : upd (upd H1 D (.lst [])) L (.lst ((numsD dy).map V.int)) D = some (.lst []) := by rw [upd_ne nDL, upd_same]
  have hL3 : upd (upd H1 D (.lst [])) L (.lst ((numsD dy).map V.int)) L = some (.lst ((numsD dy).map V.int)) := upd_same
  generalize upd (upd H1 D (.lst [])) L (.lst ((numsD dy).map V.int)) = H3 at e3 hD3 hL3 ⊢
  have hl := rl.1
  have fin : ∀ σ H', (Ex H1 H' ∧ ∃ (v : Option V) (w : Option V), H' D = some (.lst ((ansI (numsD dy) (ds.map intsOf)).map V.int)) ∧ σ = [some (.ref b), some (.ref a), some (.ref D), w, v]) → tRet (tCB (rTupOf K) (tCons (tVar 2) tNil)) { nx := fun _ H' => Q .non H', rt := Q } σ H' := by
    rintro σ H' ⟨e, v, w, hd, rfl⟩
    exact ⟨_, rfl, D, _, rfl, .inl ⟨SqL.of hd, fun l hl => q' l _ ((e1.trans e).trans (Ex.new hl)) upd_same⟩⟩
  refine ⟨_, rfl, 1, rfl, _, rfl, b, xs, rfl, ex_t e3 hb, fun whole => ?_, fun _ tl htl => ?_⟩
  · have x0 : xs = [] := by
      have h2 := whole.2
      have : HT.sIx xs.length xs.length (some (-1)) = xs.length - 1 := by
        show (if (-1 : Int) < 0 then ((-1 : Int) + (xs.length : Int)).toNat else min (-1 : Int).toNat xs.length) = _
        rw [if_pos (by decide)]
        omega
      rw [show (-(1 : Int)) = -1 from rfl, this] at h2
      exact List.eq_nil_of_length_eq_zero (by omega)
    subst x0
    have d0 : ds = [] := List.eq_nil_of_length_eq_zero (by rw [← hl]; rfl)
    subst d0
    refine ⟨b, rfl, ⟨_, ex_t e3 hb⟩, for_tup (xs := []) (fun i σ H' => Ex H1 H' ∧ ∃ (v : Option V) (w : Option V), H' D = some (.lst ((ansI (numsD dy) (([] : List PyData).map intsOf)).map V.int)) ∧ σ = [some (.ref b), some (.ref a), some (.ref D), w, v]) ⟨e3, _, _, hD3, rfl⟩ (fun i σ H' _ p => ex_t p.1 hb) (fun i x σ H' hx _ => by cases hx) fin⟩
  · have e4 := Ex.new (o := .tup (cutV xs none (some (-1)))) htl
    have htl4 : upd H3 tl (.tup (cutV xs none (some (-1)))) tl = some (.tup (xs.take (xs.length - 1))) := by rw [upd_same, cut_last]
    have hD4 := e4 _ _ hD3
    have hL4 := e4 _ _ hL3
    have e34 := e3.trans e4
    refine ⟨tl, rfl, ⟨_, SqT.of upd_same⟩, for_tup (xs := xs.take (xs.length - 1)) (fun i σ H' => Ex H1 H' ∧ H' tl = some (.tup (xs.take (xs.length - 1))) ∧ ∃ (ls as : List Int) (Lp : Addr) (v : Option V), Lp ≠ D ∧ H' D = some (.lst (as.map V.int)) ∧ as.length ≤ i ∧ ansI (numsD dy) (ds.map intsOf) = as ++ ansI ls ((ds.drop i).map intsOf) ∧ H' Lp = some (.lst (ls.map V.int)) ∧ ls.Nodup ∧ ls.length ≤ 16 ∧ roundsL ls (ds.drop i) 1 = true ∧ σ = [some (.ref b), some (.ref a), some (.ref D), some (.ref Lp), v])
      ⟨e34, htl4, numsD dy, [], L, _, Ne.symm nDL, hD4, Nat.le_refl _, rfl, hL4, nd, hk16, hrl, rfl⟩ (fun i σ H' _ p => SqT.of p.2.1) ?_ (fun σ H' p => ?_)⟩
    · rintro i x σ H' hxi ⟨e, ht, ls, as, Lp, v, nLD, hDD, hal, hm, hLL, nd2, hl16, hr2, rfl⟩
      have hi := (List.getElem?_eq_some_iff.mp hxi).1
      rw [List.length_take] at hi
      have hxi' : xs[i]? = some x := by rw [List.getElem?_take_of_lt (by omega)] at hxi; exact hxi
      have hd : ds[i]? = some (ds[i]'(by omega)) := List.getElem?_eq_getElem _
      have r0 := rl.2 i x _ hxi' hd
      rw [List.drop_eq_getElem_cons (show i < ds.length by omega)] at hm
      rw [List.drop_eq_getElem_cons (show i < ds.length by omega), roundsL_cons, Bool.and_eq_true] at hr2
      generalize ds[i]'(by omega) = d0 at hd r0 hr2 hm
      obtain ⟨hc, hr3⟩ := hr2
      have hr4 := hr3
      rw [List.drop_eq_getElem_cons (show i + 1 < ds.length by omega), roundsL_cons, Bool.and_eq_true] at hr4
      rw [List.drop_eq_getElem_cons (show i + 1 < ds.length by omega), List.map_cons, List.map_cons, ansI_cons] at hm
      obtain ⟨n1, n2, n3⟩ := chosen_facts hr4.1
      have long := nodup_len n1 n2
      obtain ⟨cn, cin, c1⟩ := chosen_facts hc
      obtain ⟨b1, b2, b3⟩ := behind_le (g := 1) nd2 cn cin
      have l0 : 0 < (behindI ls (intsOf d0) 0).length := by
        unfold behindI at long ⊢
        rw [List.length_drop] at long ⊢
        have : (1 : Int).toNat = 1 := rfl
        have : (0 : Int).toNat = 0 := rfl
        omega
      obtain ⟨c, rfl, hcc⟩ := chosen_ints (r0.ex e) hc
      refine ⟨_, rfl, .inl ⟨rfl, _, SqL.of hDD⟩, _, rfl, _, rfl, Lp, c, ls, intsOf d0, 0, rfl, .inl (SqL.of hLL), hcc, by omega, .inl rfl, fun p H5 e5 hp h5 => ?_⟩
      have hat : atI ((behindI ls (intsOf d0) 0).map V.int) 0 = some (.int ((behindI ls (intsOf d0) 0).getD 0 0)) := by
        have : ((behindI ls (intsOf d0) 0).map V.int)[0]? = some (.int ((behindI ls (intsOf d0) 0).getD 0 0)) := by
          rw [List.getElem?_map, List.getD_eq_getElem?_getD, List.getElem?_eq_getElem l0]
          rfl
        exact atI_nat this
      generalize (behindI ls (intsOf d0) 0).getD 0 0 = z0 at hat hm
      refine ⟨p, _, 0, .int z0, rfl, rfl, SqL.of h5, hat, D, _, _, rfl, rfl, e5 _ _ hDD, small1000 (by rw [List.length_map]; omega), ?_⟩
      have e6 : Ex H1 (upd H5 D (.lst (as.map V.int ++ [.int z0]))) := (e.trans e5).mut hD
      obtain ⟨c2, hceq, hcc2⟩ := chosen_ints (r0.ex e6) hc
      cases hceq
      have hL6 : upd H5 D (.lst (as.map V.int ++ [.int z0])) Lp = some (.lst (ls.map V.int)) := by rw [upd_ne nLD]; exact e5 _ _ hLL
      have tD : tl ≠ D := by rintro rfl; rw [hDD] at ht; cases ht
      have ht6 : upd H5 D (.lst (as.map V.int ++ [.int z0])) tl = some (.tup (xs.take (xs.length - 1))) := by rw [upd_ne tD]; exact e5 _ _ ht
      have hD6 : upd H5 D (.lst (as.map V.int ++ [.int z0])) D = some (.lst ((as ++ [z0]).map V.int)) := by rw [upd_same, List.map_append]; rfl
      generalize upd H5 D (.lst (as.map V.int ++ [.int z0])) = H6 at e6 hL6 ht6 hD6 hcc2 ⊢
      refine ⟨_, rfl, _, rfl, Lp, c, ls, intsOf d0, 1, rfl, .inl (SqL.of hL6), hcc2, by omega, .inr rfl, fun p2 H7 e7 hp2 h7 => ?_⟩
      have np2 : p2 ≠ D := by rintro rfl; rw [hD6] at hp2; cases hp2
      refine ⟨e6.trans e7, e7 _ _ ht6, behindI ls (intsOf d0) 1, as ++ [z0], p2, _, np2, e7 _ _ hD6, by rw [List.length_append, List.length_singleton]; omega, ?_, h7, behind_nodup nd2, by omega, hr3, rfl⟩
      rw [hm, List.append_assoc, List.drop_eq_getElem_cons (show i + 1 < ds.length by omega), List.map_cons]
      rfl
    · obtain ⟨e, ht, ls, as, Lp, v, nLD, hDD, hal, hm, hLL, nd2, hl16, hr2, rfl⟩ := p
      have em : ansI ls ((ds.drop (xs.take (xs.length - 1)).length).map intsOf) = [] := by
        rw [List.length_take]
        have hle : (ds.drop (min (xs.length - 1) xs.length)).length ≤ 1 := by rw [List.length_drop]; omega
        match ds.drop (min (xs.length - 1) xs.length), hle with
        | [], _ => rfl
        | [_], _ => rfl
      rw [em, List.append_nil] at hm
      rw [← hm] at hDD
      exact fin _ _ ⟨e, _, _, hDD, rfl⟩
/-! ### the doors -/
def spManyDoor (K : PySem.W.Frag) (CN CS : Addr) : Sp := fun vs H Q E => ∃ (x y : V) (dx dy : PyData) (n : Nat) (ok : Addr → Prop), vs = [x, y] ∧ RdA K ok H n x dx ∧ RdA K ok H n y dy ∧
  (num16 dx = true → sizesD dy = true → ∀ H', Ex H H' → Q (.int (manyI (intD dx) (numsD dy) 1)) H') ∧
  (num16 dx = false → ∀ e H', Ex H H' → H' e = some (.xd [("given", x)]) → E (.ref CN) (some e) H') ∧
  (num16 dx = true → sizesD dy = false → ∀ e H', Ex H H' → H' e = some (.xd [("given", y)]) → E (.ref CS) (some e) H')
def spRoundsDoor (K : PySem.W.Frag) (CK CS CR : Addr) (g : Int) : Sp := fun vs H Q E => ∃ (x y z : V) (dx dy dz : PyData) (n : Nat) (ok : Addr → Prop), vs = [x, y, z] ∧ RdA K ok H n x dx ∧ RdA K ok H n y dy ∧ RdA K ok H n z dz ∧
  (kindsD dy = true → sizesD dz = true → rankD g dx dy dz = true → ∀ (p : Addr) (xs : List V) H', Ex H H' → H' p = some (.tup xs) → RowsT H' xs (rndA g (numsD dy) (numsD dz) (intD dx)) → Q (.ref p) H') ∧
  (kindsD dy = false → ∀ e H', Ex H H' → H' e = some (.xd [("given", y)]) → E (.ref CK) (some e) H') ∧
  (kindsD dy = true → sizesD dz = false → ∀ e H', Ex H H' → H' e = some (.xd [("given", z)]) → E (.ref CS) (some e) H') ∧
  (kindsD dy = true → sizesD dz = true → rankD g dx dy dz = false → ∀ e H', Ex H H' → H' e = some (.xd [("given", x)]) → E (.ref CR) (some e) H')
def spRankDoor (K : PySem.W.Frag) (CK CR : Addr) (g : Int) : Sp := fun vs H Q E => ∃ (x y : V) (dx dy : PyData) (n : Nat) (ok : Addr → Prop), vs = [x, y] ∧ RdA K ok H n x dx ∧ RdA K ok H n y dy ∧ n ≤ 20 ∧
  (kindsD dy = true → roundsD (numsD dy) g dx = true → ∀ H', Ex H H' → Q (.int (rnkA g (numsD dy) ((itemsD dx).map intsOf) 0)) H') ∧
  (kindsD dy = false → ∀ e H', Ex H H' → H' e = some (.xd [("given", y)]) → E (.ref CK) (some e) H') ∧
  (kindsD dy = true → roundsD (numsD dy) g dx = false → ∀ e H', Ex H H' → H' e = some (.xd [("given", x)]) → E (.ref CR) (some e) H')
theorem num16_int {ok : Addr → Prop} {H : Hp} {n : Nat} {x : V} {d : PyData} (h : RdA K ok H n x d) (c : num16 d = true) : ∃ i, x = .int i ∧ d = .int i ∧ 0 ≤ i ∧ i ≤ 16 := by
  rcases h with h | ⟨a, rfl, rfl, _⟩
  · exact betw_int h c
  · cases c
theorem ok_many_raised (T : TA2 K mg) : FnOk P w K mg base (L2.CX P w) 7 T.many_raised.a T.many_raised.fd ["count", "sizes"] (spManyDoor K T.InvalidNumber.C T.InvalidSizes.C) := by
  refine T.many_raised.F.okX sc_many_raised (fun vs H Q E h => ?_) (fun cdv A outer s H vs Q E hr h => ?_)
  · obtain ⟨x, y, dx, dy, n, ok, rfl, _⟩ := h; rfl
  obtain ⟨x, y, dx, dy, n, ok, rfl, hx, hy, q, qn, qs⟩ := h
  refine ⟨_, (pss_cons (ps_expr (by exact (pe_callS (ok_check_count T) (hr.mono (by decide)) rfl T.check_count.m T.check_count.F.kp T.check_count.b (fun σ => passAt (takes_of rfl rfl rfl rfl) σ) (pa_cons (pv 0) pa_nil))))
    (pss_cons (ps_expr (by exact (pe_callS (ok_check_sizes T) (hr.mono (by decide)) rfl T.check_sizes.m T.check_sizes.F.kp T.check_sizes.b (fun σ => passAt (takes_of rfl rfl rfl rfl) σ) (pa_cons (pv 1) pa_nil))))
    (pss_one (ps_ret (pe_call (ok_many T) (hr.mono (by decide)) rfl T.many.m T.many.F.kp T.many.b .nil pass0 (pa_cons (pv 0) (pa_cons (pv 1) (pa_cons (pe_glob (v := .int 1) rfl T.c_ON_WIRES ⟨_, rfl⟩) pa_nil)))))))), ?_⟩
  refine ⟨_, rfl, x, dx, n, ok, rfl, hx, fun c H1 e1 => ?_, qn⟩
  refine ⟨_, rfl, y, dy, n, ok, rfl, hy.ex e1, fun c2 H2 e2 => ?_, fun no e H' ex he => qs c no e H' (e1.trans ex) he⟩
  obtain ⟨i, rfl, rfl, i0, i1⟩ := num16_int hx c
  obtain ⟨b, rfl, hb, hl2, hk2⟩ := sizes_get ((hy.ex (e1.trans e2)).rd (sizes_seq c2)) c2
  exact ⟨_, rfl, _, rfl, i, 1, b, numsD dy, rfl, hb, by omega, by decide, hk2, q c c2 _ (e1.trans e2)⟩
theorem ok_raised_of (T : TA2 K mg) : FnOk P w K mg base (L2.CX P w) 7 T.raised_of.a T.raised_of.fd ["rank", "wires", "sizes"] (spRoundsDoor K T.InvalidKinds.C T.InvalidSizes.C T.InvalidRank.C 1) := by
  refine T.raised_of.F.okX sc_raised_of (fun vs H Q E h => ?_) (fun cdv A outer s H vs Q E hr h => ?_)
  · obtain ⟨x, y, z, dx, dy, dz, n, ok, rfl, _⟩ := h; rfl
  obtain ⟨x, y, z, dx, dy, dz, n, ok, rfl, hx, hy, hz, q, qk, qs, qr⟩ := h
  refine ⟨_, (pss_cons (ps_expr (by exact (pe_callS (ok_check_rank T) (hr.mono (by decide)) rfl T.check_rank.m T.check_rank.F.kp T.check_rank.b (fun σ => passAt (takes_of rfl rfl rfl rfl) σ) (pa_cons (pv 0) (pa_cons (pv 1) (pa_cons (pv 2) (pa_cons (pe_glob (v := .int 1) rfl T.c_ON_WIRES ⟨_, rfl⟩) pa_nil)))))))
    (pss_one (ps_ret (pe_call (ok_rounds_at T) (hr.mono (by decide)) rfl T.rounds_at.m T.rounds_at.F.kp T.rounds_at.b .nil pass0 (pa_cons (pv 0) (pa_cons (pv 1) (pa_cons (pv 2) (pa_cons (pe_glob (v := .int 1) rfl T.c_ON_WIRES ⟨_, rfl⟩) pa_nil)))))))), ?_⟩
  refine ⟨_, rfl, _, rfl, _, rfl, x, y, z, dx, dy, dz, n, ok, 1, rfl, hx, hy, hz, .inr rfl, fun c1 c2 c3 H1 e1 => ?_, qk, qs, qr⟩
  obtain ⟨a, rfl, ha, hk16, hk1⟩ := kinds_get ((hy.ex e1).rd (kinds_seq c1)) c1
  obtain ⟨b, rfl, hb, hl2, hk2⟩ := sizes_get ((hz.ex e1).rd (sizes_seq c2)) c2
  have hx0 : Rd K ok H n x dx := by
    rcases hx with h | ⟨a, rfl, rfl, _⟩
    · exact h
    · cases c3
  obtain ⟨i, rfl, rfl, i0, i1⟩ := betw_int hx0 c3
  exact ⟨_, rfl, _, rfl, _, rfl, i, a, b, numsD dy, numsD dz, 1, rfl, ha, hb, kinds_nodup c1, hk16, hl2, hk2, .inr rfl, i0, by omega, fun p xs H' e h hr => q c1 c2 c3 p xs H' (e1.trans e) h hr⟩
theorem ok_raised_rank (T : TA2 K mg) : FnOk P w K mg base (L2.CX P w) 7 T.raised_rank.a T.raised_rank.fd ["rounds", "wires"] (spRankDoor K T.InvalidKinds.C T.InvalidRounds.C 1) := by
  refine T.raised_rank.F.okX sc_raised_rank (fun vs H Q E h => ?_) (fun cdv A outer s H vs Q E hr h => ?_)
  · obtain ⟨x, y, dx, dy, n, ok, rfl, _⟩ := h; rfl
  obtain ⟨x, y, dx, dy, n, ok, rfl, hx, hy, hn, q, qk, qr⟩ := h
  refine ⟨_, (pss_cons (ps_expr (by exact (pe_callS (ok_check_rounds T) (hr.mono (by decide)) rfl T.check_rounds.m T.check_rounds.F.kp T.check_rounds.b (fun σ => passAt (takes_of rfl rfl rfl rfl) σ) (pa_cons (pv 0) (pa_cons (pv 1) (pa_cons (pe_glob (v := .int 1) rfl T.c_ON_WIRES ⟨_, rfl⟩) pa_nil))))))
    (pss_one (ps_ret (pe_call (ok_rank_at T) (hr.mono (by decide)) rfl T.rank_at.m T.rank_at.F.kp T.rank_at.b .nil pass0 (pa_cons (pv 0) (pa_cons (pv 1) (pa_cons (pe_glob (v := .int 1) rfl T.c_ON_WIRES ⟨_, rfl⟩) pa_nil))))))), ?_⟩
  refine ⟨_, rfl, _, rfl, x, y, dx, dy, n, ok, 1, rfl, hx, hy, hn, .inr rfl, fun c1 c2 H1 e1 => ?_, qk, qr⟩
  obtain ⟨a, rfl, ha, hk16, hk1⟩ := kinds_get ((hy.ex e1).rd (kinds_seq c1)) c1
  exact ⟨_, rfl, _, rfl, x, a, dx, n, ok, numsD dy, 1, rfl, rounds_rd (hx.ex e1) c2, ha, kinds_nodup c1, hk16, .inr rfl, c2, fun H' e => q c1 c2 H' (e1.trans e)⟩
end
end L2.U


set_option Elab.async false
set_option linter.all false
set_option maxRecDepth 100000
set_option maxHeartbeats 4000000
namespace TTS
open PySem PySem.Spec PyProof.Rows L2
variable {α β : Type}
/-! ### the order of lists, first by their first -/
def lexG [DecidableEq α] (lt : α → α → Bool) : List α → List α → Bool
  | [], [] => false
  | [], _ :: _ => true
  | _ :: _, [] => false
  | a :: x, b :: y => if a = b then lexG lt x y else lt a b
theorem lexG_eq [DecidableEq α] {lt : α → α → Bool} {a : α} {x y : List α} : lexG lt (a :: x) (a :: y) = lexG lt x y := if_pos rfl
theorem lexG_ne [DecidableEq α] {lt : α → α → Bool} {a b : α} {x y : List α} (h : a ≠ b) : lexG lt (a :: x) (b :: y) = lt a b := if_neg h
structure Sto (lt : α → α → Bool) : Prop where
  asym : ∀ x y, lt x y = true → lt y x = false
  tot : ∀ x y, x ≠ y → lt y x = false → lt x y = true
  tr : ∀ x y z, lt x y = true → lt y z = true → lt x z = true
theorem sto_int : Sto (fun a b : Int => decide (a < b)) := by
  refine ⟨fun x y h => ?_, fun x y n h => ?_, fun x y z h1 h2 => ?_⟩
  · have := of_decide_eq_true h
    exact decide_eq_false (by omega)
  · have := of_decide_eq_false h
    exact decide_eq_true (by omega)
  · have := of_decide_eq_true h1
    have := of_decide_eq_true h2
    exact decide_eq_true (by omega)
section
variable [DecidableEq α] {lt : α → α → Bool}
theorem lex_asym (O : Sto lt) : ∀ x y, lexG lt x y = true → lexG lt y x = false
  | [], [], _ => rfl
  | [], _ :: _, _ => rfl
  | _ :: _, [], h => by cases h
  | a :: x, b :: y, h => by
    by_cases e : a = b
    · subst e
      rw [lexG_eq] at h ⊢
      exact lex_asym O x y h
    · rw [lexG_ne e] at h
      rw [lexG_ne (Ne.symm e)]
      exact O.asym a b h
theorem lex_tot (O : Sto lt) : ∀ x y, x ≠ y → lexG lt y x = false → lexG lt x y = true
  | [], [], n, _ => absurd rfl n
  | [], _ :: _, _, _ => rfl
  | _ :: _, [], _, h => by cases h
  | a :: x, b :: y, n, h => by
    by_cases e : a = b
    · subst e
      rw [lexG_eq] at h ⊢
      exact lex_tot O x y (fun z => n (by rw [z])) h
    · rw [lexG_ne (Ne.symm e)] at h
      rw [lexG_ne e]
      exact O.tot a b e h
theorem lex_tr (O : Sto lt) : ∀ x y z, lexG lt x y = true → lexG lt y z = true → lexG lt x z = true
  | [], [], _, h, _ => by cases h
  | [], _ :: _, [], _, h => by cases h
  | [], _ :: _, _ :: _, _, _ => rfl
  | _ :: _, [], _, h, _ => by cases h
  | _ :: _, _ :: _, [], _, h => by cases h
  | a :: x, b :: y, c :: z, h1, h2 => by
    by_cases e : a = b
    · subst e
      rw [lexG_eq] at h1
      by_cases f : a = c
      · subst f
        rw [lexG_eq] at h2 ⊢
        exact lex_tr O x y z h1 h2
      · rw [lexG_ne f] at h2 ⊢
        exact h2
    · rw [lexG_ne e] at h1
      by_cases f : b = c
      · subst f
        rw [lexG_ne e]
        exact h1
      · rw [lexG_ne f] at h2
        by_cases g : a = c
        · subst g
          rw [O.asym _ _ h1] at h2
          cases h2
        · rw [lexG_ne g]
          exact O.tr a b c h1 h2
theorem Sto.lex (O : Sto lt) : Sto (lexG lt) := ⟨lex_asym O, lex_tot O, lex_tr O⟩
end
theorem Sto.swo {lt : α → α → Bool} (O : Sto lt) (k : β → α) : SrtO.Swo (fun x y => lt (k x) (k y)) := by
  refine ⟨fun x y h => O.asym _ _ h, fun x y z h1 h2 => ?_⟩
  by_cases e : k x = k y
  · rw [e]; exact h2
  · have h3 := O.tot _ _ e h1
    cases h : lt (k z) (k x) with
    | false => rfl
    | true =>
      have := O.tr _ _ _ h h3
      rw [h2] at this
      cases this
def lexI : List Int → List Int → Bool := lexG fun a b => decide (a < b)
def lexL : List (List Int) → List (List Int) → Bool := lexG lexI
theorem sto_I : Sto lexI := sto_int.lex
theorem sto_L : Sto lexL := sto_I.lex
theorem lexAt_shift {e r : Nat → Bool} {z : Bool} : ∀ (k i : Nat), Ob.lexAt e r z (i + 1) k = Ob.lexAt (fun j => e (j + 1)) (fun j => r (j + 1)) z i k
  | 0, _ => rfl
  | k + 1, i => by rw [Ob.lexAt_succ, Ob.lexAt_succ, lexAt_shift k (i + 1)]
theorem lexI_at : ∀ ns ms : List Int, Ob.lexAt (fun j => decide (ns.getD j 0 = ms.getD j 0)) (fun j => decide (ns.getD j 0 < ms.getD j 0)) (decide (ns.length < ms.length)) 0 (min ns.length ms.length) = lexI ns ms
  | [], [] => rfl
  | [], _ :: _ => by
    show decide (0 < _ + 1) = true
    exact decide_eq_true (Nat.succ_pos _)
  | _ :: _, [] => by
    show decide (_ + 1 < 0) = false
    exact decide_eq_false (by omega)
  | a :: x, b :: y => by
    have m : min (a :: x).length (b :: y).length = min x.length y.length + 1 := by
      rw [List.length_cons, List.length_cons]; omega
    have d : decide ((a :: x).length < (b :: y).length) = decide (x.length < y.length) := decide_eq_decide.mpr (by rw [List.length_cons, List.length_cons]; omega)
    rw [m, d, Ob.lexAt_succ, lexAt_shift]
    show (if decide (a = b) = true then Ob.lexAt (fun j => decide (x.getD j 0 = y.getD j 0)) (fun j => decide (x.getD j 0 < y.getD j 0)) (decide (x.length < y.length)) 0 (min x.length y.length) else decide (a < b)) = _
    rw [lexI_at x y]
    by_cases e : a = b
    · rw [if_pos (decide_eq_true e)]
      subst e
      exact lexG_eq.symm
    · rw [if_neg (fun z => e (of_decide_eq_true z))]
      exact (lexG_ne (lt := fun a b : Int => decide (a < b)) e).symm
/-! ### tuples of ints, and tuples of them, in the heap -/
section
variable {prog : Program} {w : World} {A : Around} {s : Shared}
def IntT (h : Heap) (q : Addr) (ns : List Int) : Prop := ∃ (o : Obj) (its : List Value) (n : Nat), h.get? q = some o ∧ o.cls = .type "tuple" ∧ o.data = .seq its.toArray n ∧ Vals (ns.map V.int) its
theorem IntT.keeps {h h' : Heap} {q : Addr} {ns : List Int} (x : IntT h q ns) (k : ∀ b o, h.get? b = some o → o.cls = .type "tuple" → h'.get? b = some o) : IntT h' q ns := by
  obtain ⟨o, its, n, h1, h2, h3, h4⟩ := x
  exact ⟨o, its, n, k _ _ h1 h2, h2, h3, h4⟩
theorem IntT.key {h : Heap} {q : Addr} {ns : List Int} (x : IntT h q ns) : IsTupleKey (mixKind prog w) h (ns.map Sum.inl) q := by
  obtain ⟨o, its, n, h1, h2, h3, h4⟩ := x
  have e : ns.map V.int = (ns.map (Sum.inl : Int → Key)).map kV := by rw [List.map_map]; rfl
  rw [e] at h4
  exact ⟨o, its.toArray, n, h1, h2, h3, by simpa using items_are h4⟩
theorem IntT.lt {q q' : Addr} {ns ms : List Int} (hu : A.units < cLine) (x : IntT s.heap q ns) (y : IntT s.heap q' ms) : Ob.RcOp .Lt A s (.ref q) (.ref q') (lexI ns ms) := by
  obtain ⟨o, its, n, h1, h2, h3, h4⟩ := x
  obtain ⟨o2, its2, n2, g1, g2, g3, g4⟩ := y
  have i1 : IntsAre its ns := Vals.ints h4
  have i2 : IntsAre its2 ms := Vals.ints g4
  have e1 : its.toArray.size = ns.length := by rw [List.size_toArray]; exact i1.length
  have e2 : its2.toArray.size = ms.length := by rw [List.size_toArray]; exact i2.length
  have at1 : ∀ j (h1 : j < its.toArray.size), ∃ t, its.toArray[j] = .int (ns.getD j 0) t := fun j h1 => PyProof.Rows.IntsAre.int_at i1 _ _ (by simp at h1; simp [h1])
  have at2 : ∀ j (h1 : j < its2.toArray.size), ∃ t, its2.toArray[j] = .int (ms.getD j 0) t := fun j h1 => PyProof.Rows.IntsAre.int_at i2 _ _ (by simp at h1; simp [h1])
  have R := Ob.RcOp.tuples_lt (A := A) (s := s) (l := q) (b := q') (e := fun j => decide (ns.getD j 0 = ms.getD j 0)) (r := fun j => decide (ns.getD j 0 < ms.getD j 0)) ⟨o, h1, h2, n, h3⟩ ⟨o2, g1, g2, n2, g3⟩ hu (fun j h1 h2 => by
    obtain ⟨t, et⟩ := at1 j h1
    obtain ⟨t', et'⟩ := at2 j h2
    rw [et, et']
    have z : (ns.getD j 0 == ms.getD j 0) = decide (ns.getD j 0 = ms.getD j 0) := by
      by_cases q : ns.getD j 0 = ms.getD j 0
      · rw [decide_eq_true q]; exact beq_iff_eq.mpr q
      · rw [decide_eq_false q]; exact beq_eq_false_iff_ne.mpr q
    rw [← z]
    exact SeqAt.EqAt.int_int _ _ _ _) (fun j h1 h2 _ => by
    obtain ⟨t, et⟩ := at1 j h1
    obtain ⟨t', et'⟩ := at2 j h2
    rw [et, et']
    exact Ob.RcOp.lt_int _ _ _ _)
  rw [e1, e2, lexI_at] at R
  exact R
def LLT (h : Heap) (v : Value) (rs : List (List Int)) : Prop := ∃ (a : Addr) (o : Obj) (n : Nat) (qs : List Addr), v = .ref a ∧ h.get? a = some o ∧ o.cls = .type "tuple" ∧ o.data = .seq (qs.map Value.ref).toArray n ∧ qs.length = rs.length ∧ ∀ (i : Nat) (q : Addr) (ns : List Int), qs[i]? = some q → rs[i]? = some ns → IntT h q ns
theorem LLT.keeps {h h' : Heap} {v : Value} {rs : List (List Int)} (x : LLT h v rs) (k : ∀ b o, h.get? b = some o → o.cls = .type "tuple" → h'.get? b = some o) : LLT h' v rs := by
  obtain ⟨a, o, n, qs, e, h1, h2, h3, h4, h5⟩ := x
  exact ⟨a, o, n, qs, e, k _ _ h1 h2, h2, h3, h4, fun i q ns a b => (h5 i q ns a b).keeps k⟩
theorem kat_ll {Q : Bool → Shared → Prop} (hu : A.units < cLine) : ∀ (qs qs' : List Addr) (rs rs' : List (List Int)) (i : Nat), qs.length = rs.length → qs'.length = rs'.length → (∀ (i : Nat) (q : Addr) (ns : List Int), qs[i]? = some q → rs[i]? = some ns → IntT s.heap q ns) → (∀ (i : Nat) (q : Addr) (ns : List Int), qs'[i]? = some q → rs'[i]? = some ns → IntT s.heap q ns) →
    Q (lexL rs rs') s → PySem.W.KatLex prog w A false (decide (rs.length < rs'.length)) Q ((qs.map Value.ref).zip (qs'.map Value.ref)) i s
  | [], qs', [], [], i, _, _, _, _, h => h
  | [], qs', [], b :: y, i, _, _, _, _, h => by
    have e : decide (([] : List (List Int)).length < (b :: y).length) = true := decide_eq_true (Nat.succ_pos _)
    rw [e]
    exact h
  | q :: qs, [], a :: x, [], i, _, _, _, _, h => by
    have e : decide ((a :: x).length < ([] : List (List Int)).length) = false := decide_eq_false (Nat.not_lt_zero _)
    rw [e]
    exact h
  | q :: qs, q' :: qs', a :: x, b :: y, i, l1, l2, h1, h2, h => by
    have d : decide ((a :: x).length < (b :: y).length) = decide (x.length < y.length) := decide_eq_decide.mpr (by rw [List.length_cons, List.length_cons]; omega)
    rw [d]
    have t1 := h1 0 q a rfl rfl
    have t2 := h2 0 q' b rfl rfl
    refine PySem.W.kat_cons (wpAny_eqBool_tuple hu (t1.key (prog := prog) (w := w)) (t2.key (prog := prog) (w := w)) ?_)
    have inj : a.map (Sum.inl : Int → Key) = b.map Sum.inl → a = b := fun z => (List.map_inj_right (fun _ _ e => Sum.inl.inj e)).mp z
    refine PySem.W.kat_go (fun e => ?_) (fun e => ?_)
    · have e1 := inj (of_decide_eq_true e)
      subst e1
      refine PySem.W.kat_yes (kat_ll hu qs qs' x y (i + 1) (Nat.succ.inj l1) (Nat.succ.inj l2) (fun j q ns ha hb => h1 (j + 1) q ns ha hb) (fun j q ns ha hb => h2 (j + 1) q ns ha hb) ?_)
      have z : lexL (a :: x) (a :: y) = lexL x y := lexG_eq
      rw [z] at h
      exact h
    · have e1 : a ≠ b := fun z => of_decide_eq_false e (by rw [z])
      refine PySem.W.kat_no ?_
      show wpAny _ _ (oneLt' false _ _) _ _ _
      refine PySem.W.kat_one _ _ (IntT.lt hu t1 t2 prog w _ _ ?_)
      have z : lexL (a :: x) (b :: y) = lexI a b := lexG_ne e1
      rw [z] at h
      exact h
  | [], _, _ :: _, _, _, l1, _, _, _, _ => by cases l1
  | _ :: _, _, [], _, _, l1, _, _, _, _ => by cases l1
  | _, [], _, _ :: _, _, _, l2, _, _, _ => by cases l2
  | _, _ :: _, _, [], _, _, l2, _, _, _ => by cases l2
theorem ll_cmp {vs : List Value} {k : Value → List (List Int)} (hu : A.units < cLine) (hp : ∀ v ∈ vs, LLT s.heap v (k v)) : SrtO.Cmp prog w A s (tuples' false) (fun p => p.1 ∈ vs) (SrtO.lt2 fun v u => lexL (k v) (k u)) := by
  intro p q hm hm'
  have h1 := hp _ hm
  have h2 := hp _ hm'
  show wpAny (model prog w) A (keyLt' (tuples' false) p.1 q.1) (fun r s' => s' = s ∧ r = lexL (k p.1) (k q.1)) (fun _ _ => False) s
  generalize k p.1 = x at h1 ⊢
  generalize k q.1 = y at h2 ⊢
  obtain ⟨a, o, n, qs, e, ho, hc, hd, hl, hi⟩ := h1
  obtain ⟨a', o', n', qs', e', ho', hc', hd', hl', hi'⟩ := h2
  rw [e, e']
  refine PySem.W.kat_lt ho hd ho' hd' ?_
  have z : decide ((qs.map Value.ref).toArray.size < (qs'.map Value.ref).toArray.size) = decide (x.length < y.length) := by
    rw [List.size_toArray, List.size_toArray, List.length_map, List.length_map, hl, hl']
  rw [z]
  exact kat_ll hu qs qs' x y 0 hl hl' hi hi' ⟨rfl, rfl⟩
theorem ll_firsts {h : Heap} {k : Value → List (List Int)} : ∀ vs : List Value, (∀ v ∈ vs, LLT h v (k v) ∧ k v ≠ []) → ∃ fs : List Value, PySem.W.KatTups h vs fs ∧ fs.length = vs.length ∧ ∀ f ∈ fs, ∃ (q : Addr) (o : Obj), f = Value.ref q ∧ h.get? q = some o ∧ o.cls = .type "tuple"
  | [], _ => ⟨[], PySem.W.KatTups.nil, rfl, fun f hf => by simp at hf⟩
  | v :: vs, x => by
    obtain ⟨fs, kk, hl, hi⟩ := ll_firsts vs fun u hu => x u (List.mem_cons_of_mem _ hu)
    obtain ⟨⟨a, o, n, qs, rfl, ho, hc, hd, hql, hqi⟩, hne⟩ := x v List.mem_cons_self
    generalize k (.ref a) = rs at hql hqi hne
    match qs, rs, hql, hne, hd, hqi with
    | q :: qs, r :: rs, hql, hne, hd, hqi =>
      obtain ⟨o2, its, n2, g1, g2, _⟩ := hqi 0 q r rfl rfl
      refine ⟨.ref q :: fs, PySem.W.KatTups.cons ho hc hd rfl kk, by rw [List.length_cons, List.length_cons, hl], fun f hf => ?_⟩
      rcases List.mem_cons.mp hf with rfl | hf
      · exact ⟨q, o2, rfl, g1, g2⟩
      · exact hi f hf
    | [], [], _, hne, _, _ => exact absurd rfl hne
theorem ll_sortable {a : Addr} {vs : List Value} {k : Value → List (List Int)} (hu : A.units < cLine) (h0 : 0 < vs.length) (hp : ∀ v ∈ vs, LLT s.heap v (k v) ∧ k v ≠ []) (ha : ∀ o, s.heap.get? a = some o → o.cls ≠ .type "tuple") : SrtO.SortableO prog w A s a vs fun v u => lexL (k v) (k u) := by
  intro h' keep
  have hp' : ∀ v ∈ vs, LLT h' v (k v) ∧ k v ≠ [] := fun v hm => ⟨(hp v hm).1.keeps fun b o e c => keep b o (fun z => by subst z; exact ha o e c) e, (hp v hm).2⟩
  obtain ⟨fs, h1, h2, h3⟩ := ll_firsts vs hp'
  refine ⟨tuples' false, fun Q E hq => ?_, ll_cmp (s := { s with heap := h' }) hu fun v hm => (hp' v hm).1⟩
  refine PySem.W.kat_kind (T := .type "tuple") h1 (by omega) (fun f hm => ?_) (by rfl) ?_
  · obtain ⟨q, o, rfl, ho, hc⟩ := h3 f hm
    have z : PySem.W.Looks (model prog w) h' (typeOf (.ref q)) o.cls := (PySem.W.Looks.ld ho).andThen .now
    rw [hc] at z
    exact z
  · have hb : (Value.type "tuple" != Value.type "tuple") = false := by first | rfl | decide | simp
    rw [hb]
    exact hq
theorem sorted_ll {l : Addr} {vs : List Value} {k : Value → List (List Int)} {Q : Value → Shared → Prop} {E : Value → Shared → Prop} (hu : A.in1.in1.units < cLine) (hl : s.heap.IsList l vs.toArray) (hz : vs.length ≤ sizeLine) (hp : ∀ v ∈ vs, LLT s.heap v (k v) ∧ (2 ≤ vs.length → k v ≠ []))
    (hs : vs.Pairwise fun v u => lexL (k v) (k u) = true)
    (h : ∀ (h' : Heap) (d : Addr), (∀ b o, s.heap.get? b = some o → h'.get? b = some o) → s.heap.objs.size ≤ d → (∃ n, h'.get? d = some (seqObj "list" vs.toArray n)) → Q (.ref d) { s with heap := h' }) :
    wpAny (model prog w) A (call (.builtin "sorted") [.ref l]) Q E s := by
  have O : SrtO.Swo (fun v u => lexL (k v) (k u)) := sto_L.swo k
  refine SrtO.sorted_ord O hl hz (fun h2 h₁ a ha kk => ?_) fun out ho hb => ?_
  · refine ll_sortable (s := { s with heap := h₁ }) hu (by omega) (fun v hm => ⟨(hp v hm).1.keeps fun b o e _ => (kk b o e).2, (hp v hm).2 h2⟩) fun o e => ?_
    have e' : some o = some (seqObj "list" vs.toArray 0) := e.symm.trans ha
    cases e'
    intro c
    exact absurd (Value.type.inj c) (by decide)
  · have sv : SrtO.Srtd (fun v u => lexL (k v) (k u)) vs := hs.imp fun {v u} h => sto_L.asym _ _ h
    have e : out = vs := SrtO.stb_uniq O ho sv hb
    subst e
    exact h _ _ (fun b o e => sortedAll_old e) (Nat.le_succ _) (sortedAll_at s.heap out out.toArray)
end
end TTS
namespace L2
open PySem PySem.Spec PyProof.Rows TTS
/-- a tuple of tuples of ints -/
def TTat (H : Hp) (x : V) (rs : List (List Int)) : Prop := ∃ (a : Addr) (qs : List Addr), x = .ref a ∧ H a = some (.tup (qs.map V.ref)) ∧ qs.length = rs.length ∧ ∀ (i : Nat) (q : Addr) (ns : List Int), qs[i]? = some q → rs[i]? = some ns → H q = some (.tup (ns.map V.int))
/-- sorted(xs), xs a list of tuples of tuples of ints that stands in its order: a new list of the same -/
def rSortedTT (K : PySem.W.Frag) : List V → Hp → VK → Prop := fun vs H Q => ∃ (a : Addr) (xs : List V) (k : V → List (List Int)), vs = [V.ref a] ∧ SqL K H a xs ∧ (∀ x ∈ xs, TTat H x (k x) ∧ (2 ≤ xs.length → k x ≠ [])) ∧ xs.Pairwise (fun x y => lexL (k x) (k y) = true) ∧
  ∀ p, H p = none → Q (.ref p) (upd H p (.lst xs))
theorem vals_refsTT : ∀ {qs : List Addr} {us : List Value}, Vals (qs.map V.ref) us → us = qs.map Value.ref
  | [], us, r => by cases r; rfl
  | q :: qs, us, r => by
    cases r with
    | cons a b =>
      rename_i u us'
      obtain rfl : u = Value.ref q := a
      rw [vals_refsTT b]
      rfl
theorem cr_sortedTT {X : Cx} (hu : X.A.in1.in1.units < cLine) : CallR X (.builtin "sorted") (rSortedTT X.K) := by
  intro pins s σ H vs us Q I r h
  obtain ⟨a, xs, k, rfl, hs, hx, hsd, q⟩ := h
  obtain ⟨its, rv, hl, hz⟩ := I.list hs
  obtain ⟨u, rfl, ru⟩ := vals1 r
  obtain rfl : u = Value.ref a := ru
  obtain ⟨e1, e2⟩ := refs_back rv fun x m => by
    obtain ⟨⟨t, _, e, _⟩, _⟩ := hx x m
    exact ⟨t, e⟩
  refine sorted_ll (k := fun u => k (backV u)) hu hl.isList (by rw [← rv.length]; exact hz) (fun v hv => ?_) ?_ fun h' d kp hd hn => ?_
  · obtain ⟨t, rfl⟩ := e2 v hv
    have hm : V.ref t ∈ xs := by rw [e1]; exact List.mem_map.mpr ⟨_, hv, rfl⟩
    obtain ⟨⟨t', qs, e, ht, hq, hi⟩, hne⟩ := hx _ hm
    cases e
    refine ⟨?_, fun z => hne (by rw [rv.length]; exact z)⟩
    obtain ⟨_, its2, r2, o, ho, hc, n, hd⟩ := I.hok _ _ ht
    rw [vals_refsTT r2] at hd
    refine ⟨t, o, n, qs, rfl, ho, hc, hd, hq, fun i q ns g1 g2 => ?_⟩
    obtain ⟨_, its3, r3, o3, ho3, hc3, n3, hd3⟩ := I.hok _ _ (hi i q ns g1 g2)
    exact ⟨o3, its3, n3, ho3, hc3, hd3, r3⟩
  · rw [e1] at hsd
    exact List.pairwise_map.mp hsd
  · obtain ⟨n, hn⟩ := hn
    have h3 : ∀ u ∈ its, ∃ a, u = Value.ref a := e2
    refine ⟨.ref d, upd H d (.lst (its.map backV)), I.laid (t' := s.toks) kp hd ⟨?_, its, n, vals_back h3, hn⟩, rfl, ?_⟩
    · rw [← e1]; exact hz
    · rw [← e1]
      exact q d (I.hok.fresh hd)
end L2


set_option Elab.async false
set_option linter.all false
set_option maxRecDepth 100000
set_option maxHeartbeats 4000000
namespace L2.U
open PySem PySem.Spec PyProof.Rows Evl TTS
theorem behind0 {ks cs : List Int} : behindI ks cs 0 = ks.filter fun z => !decide (z ∈ cs) := rfl
theorem crk_chA : ∀ (ks : List Int) (r : Int) (s : Nat), ks.length ≤ 16 → s ≤ 16 → ks.Nodup → 0 ≤ r → r < Cn ks.length s → crk (chA ks r s) ks = r
  | ks, r, 0, hk, _, _, r0, r1 => by
    have := cn_zero ⟨ks.length, by omega⟩
    simp only at this
    rw [chA_zero, crk_nil]
    omega
  | [], r, s + 1, _, hs, _, r0, r1 => by
    have n := cn_none ⟨s, by omega⟩
    simp only at n
    have r1' : r < Cn 0 (s + 1) := r1
    omega
  | k :: ks, r, s + 1, hk, hs, nd, r0, r1 => by
    have hk' : ks.length ≤ 15 := by simp only [List.length_cons] at hk; omega
    have pas := cn_pas ⟨ks.length, by omega⟩ ⟨s, by omega⟩
    simp only at pas
    have r1' : r < Cn (ks.length + 1) (s + 1) := r1
    obtain ⟨n1, n2⟩ := List.nodup_cons.mp nd
    rw [chA_cons]
    by_cases c : r < Cn ks.length s
    · rw [if_pos c, crk_cons, if_pos rfl]
      exact crk_chA ks r s (by omega) (by omega) n2 r0 c
    · rw [if_neg c]
      obtain ⟨h1, h2⟩ := chA_sub ks (r - Cn ks.length s) (s + 1) (by omega) hs (by omega) (by omega)
      have ih := crk_chA ks (r - Cn ks.length s) (s + 1) (by omega) hs n2 (by omega) (by omega)
      generalize chA ks (r - Cn ks.length s) (s + 1) = l at h1 h2 ih
      match l, h2, h1, ih with
      | c' :: cs', h2, h1, ih =>
        have hne : k ≠ c' := fun z => n1 (z ▸ h1.subset List.mem_cons_self)
        have hl : cs'.length = s := Nat.succ.inj h2
        rw [crk_cons, if_neg hne, ih, hl]
        omega
/-! ### raised rounds: each of what the earlier ones left, but the least of it -/
theorem nat1 : (1 : Int).toNat = 1 := rfl
def ChR : List Int → List (List Int) → Prop
  | _, [] => True
  | ks, c :: cs => c.Sublist ks ∧ 1 ≤ c.length ∧ ChR (behindI ks c 1) cs
def lens (cs : List (List Int)) : List Int := cs.map fun c => (c.length : Int)
def rnkP : List Int → List (List Int) → Int
  | _, [] => 0
  | ks, c :: cs => crk c ks * manyI ((behindI ks c 1).length : Int) (lens cs) 1 + rnkP (behindI ks c 1) cs
theorem many_sub {n s : Nat} {ss : List Int} (h : ∀ z ∈ ss, 1 ≤ z) : manyI ((n : Int) - (s : Int) - 1) ss 1 = manyI ((n - s - 1 : Nat) : Int) ss 1 := by
  by_cases c : s + 1 ≤ n
  · have e : (n : Int) - (s : Int) - 1 = ((n - s - 1 : Nat) : Int) := by omega
    rw [e]
  · have e : ((n - s - 1 : Nat) : Int) = 0 := by omega
    rw [e]
    exact many_neg (by omega) h
theorem chr_pos : ∀ (cs : List (List Int)) (ks : List Int), ChR ks cs → ∀ z ∈ lens cs, 1 ≤ z
  | [], _, _, z, hz => by cases hz
  | c :: cs, ks, ⟨h1, h2, h3⟩, z, hz => by
    rcases List.mem_cons.mp hz with h | h
    · rw [h]
      show 1 ≤ (c.length : Int)
      omega
    · exact chr_pos cs _ h3 z h
theorem many_beh {ks c : List Int} {ss : List Int} (nd : ks.Nodup) (h : c.Sublist ks) (hs : ∀ z ∈ ss, 1 ≤ z) : manyI (ks.length : Int) ((c.length : Int) :: ss) 1 = Cn ks.length c.length * manyI ((behindI ks c 1).length : Int) ss 1 := by
  have l := behind_length (g := 1) h nd
  rw [nat1] at l
  have hl := h.length_le
  rw [manyI_cons, if_neg (by omega), many_sub hs, l]
  rfl
theorem rnkA_eq : ∀ (cs : List (List Int)) (ks : List Int) (acc : Int), ks.Nodup → ChR ks cs → rnkA 1 ks cs acc = acc * manyI (ks.length : Int) (lens cs) 1 + rnkP ks cs
  | [], ks, acc, _, _ => by
    show acc = acc * 1 + 0
    omega
  | c :: cs, ks, acc, nd, h => by
    obtain ⟨h1, h2, h3⟩ := h
    rw [rnkA_cons, rnkA_eq cs (behindI ks c 1) _ (behind_nodup nd) h3]
    show _ = acc * manyI (ks.length : Int) ((c.length : Int) :: lens cs) 1 + (crk c ks * manyI ((behindI ks c 1).length : Int) (lens cs) 1 + rnkP (behindI ks c 1) cs)
    rw [many_beh nd h1 (chr_pos _ _ h3), Int.add_mul, Int.mul_assoc]
    omega
theorem rnd_chain : ∀ (ss : List Int) (ks : List Int) (r : Int), ks.Nodup → ks.length ≤ 16 → (∀ z ∈ ss, 1 ≤ z) → 0 ≤ r → r < manyI (ks.length : Int) ss 1 → ChR ks (rndA 1 ks ss r) ∧ lens (rndA 1 ks ss r) = ss ∧ rnkP ks (rndA 1 ks ss r) = r
  | [], ks, r, _, _, _, r0, r1 => by
    rw [manyI_nil] at r1
    refine ⟨trivial, rfl, ?_⟩
    show (0 : Int) = r
    omega
  | z :: ss, ks, r, nd, hk, hs, r0, r1 => by
    have z1 := hs z List.mem_cons_self
    have hs' : ∀ z ∈ ss, 1 ≤ z := fun x hx => hs x (List.mem_cons_of_mem _ hx)
    obtain ⟨s, rfl⟩ : ∃ s : Nat, z = (s : Int) := ⟨z.toNat, by omega⟩
    rw [manyI_cons] at r1
    have hls : ¬ ((ks.length : Int) < (s : Int)) := by
      intro c
      rw [if_pos c] at r1
      omega
    rw [if_neg hls, many_sub hs'] at r1
    rw [rndA_cons, Int.toNat_natCast, many_sub hs']
    have Mle := many_le (g := 1) (by omega) ss (ks.length - s - 1) (by omega) hs'
    have r1' : r < Cn ks.length s * manyI ((ks.length - s - 1 : Nat) : Int) ss 1 := r1
    obtain ⟨M, hM⟩ : ∃ M, M = manyI ((ks.length - s - 1 : Nat) : Int) ss 1 := ⟨_, rfl⟩
    rw [← hM] at r1' Mle ⊢
    have M1 : 1 ≤ M := by
      by_cases c : M = 0
      · rw [c, Int.mul_zero] at r1'; omega
      · omega
    have dlt : r / M < Cn ks.length s := Int.ediv_lt_of_lt_mul (by omega) r1'
    have d0 : 0 ≤ r / M := Int.ediv_nonneg r0 (by omega)
    obtain ⟨sub, hl⟩ := chA_sub ks (r / M) s hk (by omega) d0 dlt
    have hck := crk_chA ks (r / M) s hk (by omega) nd d0 dlt
    generalize chA ks (r / M) s = c at sub hl hck
    have bl := behind_length (g := 1) sub nd
    rw [nat1, hl] at bl
    have m0 : 0 ≤ r % M := Int.emod_nonneg _ (by omega)
    have m1 : r % M < M := Int.emod_lt_of_pos _ (by omega)
    obtain ⟨i1, i2, i3⟩ := rnd_chain ss (behindI ks c 1) (r % M) (behind_nodup nd) (by omega) hs' m0 (by rw [bl, ← hM]; exact m1)
    refine ⟨⟨sub, by omega, i1⟩, ?_, ?_⟩
    · show (c.length : Int) :: lens _ = _
      rw [i2, hl]
    · show crk c ks * manyI ((behindI ks c 1).length : Int) (lens (rndA 1 (behindI ks c 1) ss (r % M))) 1 + rnkP (behindI ks c 1) (rndA 1 (behindI ks c 1) ss (r % M)) = r
      rw [i2, i3, bl, ← hM, hck]
      exact Int.ediv_mul_add_emod r M
/-! ### how many are ahead -/
theorem crk_gap : ∀ (left : List Int) (last c : Int) (cs : List Int), left.Pairwise (· < ·) → c ∈ left → last < c →
    crk (c :: cs) (left.filter fun o => decide (last < o)) = ((left.filter fun o => decide (last < o ∧ o < c)).map fun k => Cn (left.filter fun o => decide (k < o)).length cs.length).sum + crk cs (left.filter fun o => decide (c < o))
  | [], _, c, _, _, hc, _ => by cases hc
  | k :: l, last, c, cs, so, hc, hlc => by
    obtain ⟨s1, s2⟩ := List.pairwise_cons.mp so
    by_cases a : last < k
    · have f1 : (k :: l).filter (fun o => decide (last < o)) = k :: l := List.filter_eq_self.mpr fun x hx => by
        rcases List.mem_cons.mp hx with h | h
        · rw [h]; exact decide_eq_true a
        · have := s1 x h; exact decide_eq_true (by omega)
      rw [f1, crk_cons]
      by_cases b : k = c
      · subst b
        rw [if_pos rfl]
        have f2 : (k :: l).filter (fun o => decide (last < o ∧ o < k)) = [] := List.filter_eq_nil_iff.mpr fun x hx hd => by
          have := of_decide_eq_true hd
          rcases List.mem_cons.mp hx with h | h
          · omega
          · have := s1 x h; omega
        have f3 : (k :: l).filter (fun o => decide (k < o)) = l := by
          rw [List.filter_cons_of_neg (by simp)]
          exact List.filter_eq_self.mpr fun x hx => decide_eq_true (s1 x hx)
        rw [f2, f3]
        show crk cs l = 0 + crk cs l
        omega
      · rw [if_neg b]
        have hcl : c ∈ l := by
          rcases List.mem_cons.mp hc with h | h
          · exact absurd h.symm b
          · exact h
        have hkc := s1 c hcl
        have ih := crk_gap l last c cs s2 hcl hlc
        have f4 : l.filter (fun o => decide (last < o)) = l := List.filter_eq_self.mpr fun x hx => by
          have := s1 x hx; exact decide_eq_true (by omega)
        rw [f4] at ih
        have f5 : (k :: l).filter (fun o => decide (last < o ∧ o < c)) = k :: l.filter (fun o => decide (last < o ∧ o < c)) := List.filter_cons_of_pos (decide_eq_true ⟨a, hkc⟩)
        have f3 : (k :: l).filter (fun o => decide (k < o)) = l := by
          rw [List.filter_cons_of_neg (by simp)]
          exact List.filter_eq_self.mpr fun x hx => decide_eq_true (s1 x hx)
        have f6 : (k :: l).filter (fun o => decide (c < o)) = l.filter fun o => decide (c < o) := List.filter_cons_of_neg (by simp only [decide_eq_true_eq]; omega)
        rw [f5, f6, List.map_cons, List.sum_cons, f3, ih]
        have e : (l.filter (fun o => decide (last < o ∧ o < c))).map (fun k' => Cn ((k :: l).filter fun o => decide (k' < o)).length cs.length) = (l.filter (fun o => decide (last < o ∧ o < c))).map (fun k' => Cn (l.filter fun o => decide (k' < o)).length cs.length) := by
          refine List.map_congr_left fun x hx => ?_
          have hxl := s1 x (List.mem_filter.mp hx).1
          rw [List.filter_cons_of_neg (by simp only [decide_eq_true_eq]; omega)]
        rw [e]
        omega
    · have hcl : c ∈ l := by
        rcases List.mem_cons.mp hc with h | h
        · omega
        · exact h
      have ih := crk_gap l last c cs s2 hcl hlc
      have f1 : (k :: l).filter (fun o => decide (last < o)) = l.filter fun o => decide (last < o) := List.filter_cons_of_neg (by simp only [decide_eq_true_eq]; omega)
      have f5 : (k :: l).filter (fun o => decide (last < o ∧ o < c)) = l.filter (fun o => decide (last < o ∧ o < c)) := List.filter_cons_of_neg (by simp only [decide_eq_true_eq]; omega)
      have f6 : (k :: l).filter (fun o => decide (c < o)) = l.filter fun o => decide (c < o) := List.filter_cons_of_neg (by simp only [decide_eq_true_eq]; omega)
      rw [f1, f5, f6, ih]
      have e : (l.filter (fun o => decide (last < o ∧ o < c))).map (fun k' => Cn ((k :: l).filter fun o => decide (k' < o)).length cs.length) = (l.filter (fun o => decide (last < o ∧ o < c))).map (fun k' => Cn (l.filter fun o => decide (k' < o)).length cs.length) := by
        refine List.map_congr_left fun x hx => ?_
        have := of_decide_eq_true (List.mem_filter.mp hx).2
        rw [List.filter_cons_of_neg (by simp only [decide_eq_true_eq]; omega)]
      rw [e]
def gapS (left : List Int) (last c : Int) (m : Nat) : Int := ((left.filter fun o => decide (last < o ∧ o < c)).map fun k => Cn (left.filter fun o => decide (k < o)).length m).sum
def ahd (left : List Int) : Int → List Int → Int
  | _, [] => 0
  | last, c :: cs => gapS left last c cs.length + ahd left c cs
theorem sub_after {L cs : List Int} {c : Int} (so : L.Pairwise (· < ·)) (h : (c :: cs).Sublist L) : cs.Sublist (L.filter fun o => decide (c < o)) := by
  have p := (so.sublist h)
  have e : cs.filter (fun o => decide (c < o)) = cs := List.filter_eq_self.mpr fun x hx => decide_eq_true ((List.pairwise_cons.mp p).1 x hx)
  have := ((List.sublist_cons_self c cs).trans h).filter (fun o => decide (c < o))
  rw [e] at this
  exact this
theorem ahd_crk {left : List Int} (so : left.Pairwise (· < ·)) : ∀ (one : List Int) (last : Int), one.Sublist (left.filter fun o => decide (last < o)) → ahd left last one = crk one (left.filter fun o => decide (last < o))
  | [], last, _ => crk_nil.symm
  | c :: cs, last, h => by
    have hc := List.mem_filter.mp (h.subset List.mem_cons_self)
    have hlc := of_decide_eq_true hc.2
    rw [crk_gap left last c cs so hc.1 hlc]
    show gapS left last c cs.length + ahd left c cs = _
    have s1 := sub_after (so.filter _) h
    rw [List.filter_filter] at s1
    have e : left.filter (fun a => decide (c < a) && decide (last < a)) = left.filter fun o => decide (c < o) := List.filter_congr fun x _ => by
      rw [← Bool.decide_and]
      exact decide_eq_decide.mpr ⟨fun h => h.1, fun h => ⟨h, by omega⟩⟩
    rw [e] at s1
    rw [ahd_crk so cs c s1]
    rfl
theorem ahd_all {left one : List Int} (so : left.Pairwise (· < ·)) (pos : ∀ z ∈ left, 1 ≤ z) (h : one.Sublist left) : ahd left 0 one = crk one left := by
  have e : left.filter (fun o => decide ((0 : Int) < o)) = left := List.filter_eq_self.mpr fun x hx => by
    have := pos x hx; exact decide_eq_true (by omega)
  have := ahd_crk so one 0 (by rw [e]; exact h)
  rw [e] at this
  exact this
end L2.U


set_option Elab.async false
set_option linter.all false
set_option maxRecDepth 100000
set_option maxHeartbeats 4000000
namespace L2.U
open PySem PySem.Spec PyProof.Rows Evl TTS
/-! ### all of them, in their order -/
def en : List Int → Nat → List (List Int)
  | _, 0 => [[]]
  | [], _ + 1 => []
  | k :: ks, s + 1 => (en ks s).map (k :: ·) ++ en ks (s + 1)
theorem en_zero {ks : List Int} : en ks 0 = [[]] := by cases ks <;> rfl
theorem en_cons {k : Int} {ks : List Int} {s : Nat} : en (k :: ks) (s + 1) = (en ks s).map (k :: ·) ++ en ks (s + 1) := by
  conv => lhs; unfold en
theorem en_chA : ∀ (ks : List Int) (s : Nat), ks.length ≤ 16 → s ≤ 16 → en ks s = (List.range (Cn ks.length s).toNat).map fun r : Nat => chA ks (r : Int) s
  | ks, 0, hk, _ => by
    have := cn_zero ⟨ks.length, by omega⟩
    simp only at this
    rw [this, en_zero]
    show [[]] = [chA ks 0 0]
    rw [chA_zero]
  | [], s + 1, _, hs => by
    have n := cn_none ⟨s, by omega⟩
    simp only at n
    show [] = (List.range (Cn 0 (s + 1)).toNat).map _
    rw [n]
    rfl
  | k :: ks, s + 1, hk, hs => by
    have hk' : ks.length ≤ 15 := by simp only [List.length_cons] at hk; omega
    have pas := cn_pas ⟨ks.length, by omega⟩ ⟨s, by omega⟩
    have p1 := cn_pos ⟨ks.length, by omega⟩ ⟨s, by omega⟩
    have p2 := cn_pos ⟨ks.length, by omega⟩ ⟨s + 1, by omega⟩
    simp only at pas p1 p2
    have e : (Cn (k :: ks).length (s + 1)).toNat = (Cn ks.length s).toNat + (Cn ks.length (s + 1)).toNat := by
      show (Cn (ks.length + 1) (s + 1)).toNat = _
      rw [pas]
      omega
    rw [en_cons, e, List.range_add, List.map_append, List.map_map, en_chA ks s (by omega) (by omega), en_chA ks (s + 1) (by omega) hs, List.map_map]
    congr 1
    · refine List.map_congr_left fun r hr => ?_
      have := List.mem_range.mp hr
      show k :: chA ks (r : Int) s = chA (k :: ks) (r : Int) (s + 1)
      rw [chA_cons, if_pos (by omega)]
    · refine List.map_congr_left fun r hr => ?_
      show chA ks (r : Int) (s + 1) = chA (k :: ks) (((Cn ks.length s).toNat + r : Nat) : Int) (s + 1)
      rw [chA_cons, if_neg (by omega)]
      congr 1
      omega
theorem en_sub : ∀ (ks : List Int) (s : Nat), ∀ c ∈ en ks s, c.Sublist ks ∧ c.length = s
  | ks, 0, c, h => by
    rw [en_zero, List.mem_singleton] at h
    rw [h]
    exact ⟨List.nil_sublist _, rfl⟩
  | [], s + 1, c, h => by cases h
  | k :: ks, s + 1, c, h => by
    rw [en_cons] at h
    rcases List.mem_append.mp h with h | h
    · obtain ⟨d, hd, rfl⟩ := List.mem_map.mp h
      obtain ⟨h1, h2⟩ := en_sub ks s d hd
      exact ⟨h1.cons_cons k, by rw [List.length_cons, h2]⟩
    · obtain ⟨h1, h2⟩ := en_sub ks (s + 1) c h
      exact ⟨h1.cons k, h2⟩
theorem en_sorted : ∀ (ks : List Int) (s : Nat), ks.Pairwise (· < ·) → (en ks s).Pairwise fun x y => lexI x y = true
  | ks, 0, _ => by rw [en_zero]; exact List.pairwise_singleton _ _
  | [], s + 1, _ => List.Pairwise.nil
  | k :: ks, s + 1, so => by
    obtain ⟨s1, s2⟩ := List.pairwise_cons.mp so
    rw [en_cons]
    refine List.pairwise_append.mpr ⟨?_, en_sorted ks (s + 1) s2, fun x hx y hy => ?_⟩
    · refine List.pairwise_map.mpr ((en_sorted ks s s2).imp fun {a b} h => ?_)
      have z : lexI (k :: a) (k :: b) = lexI a b := lexG_eq
      rw [z]; exact h
    · obtain ⟨d, hd, rfl⟩ := List.mem_map.mp hx
      obtain ⟨h1, h2⟩ := en_sub ks (s + 1) y hy
      match y, h2, h1 with
      | y0 :: y', h2, h1 =>
        have lt := s1 y0 (h1.subset List.mem_cons_self)
        have z : lexI (k :: d) (y0 :: y') = decide (k < y0) := lexG_ne (by omega)
        rw [z]
        exact decide_eq_true lt
/-! ### as the law grows them -/
def lastI (one : List Int) : Int := one.getD (one.length - 1) 0
def grow (left : List Int) (one : List Int) : List (List Int) := (left.filter fun k => decide (one = []) || decide (lastI one < k)).map fun k => one ++ [k]
def subsL (left : List Int) : Nat → List (List Int)
  | 0 => [[]]
  | n + 1 => (subsL left n).flatMap (grow left)
theorem lastI_cons {k : Int} {one : List Int} (h : one ≠ []) : lastI (k :: one) = lastI one := by
  cases one with
  | nil => exact absurd rfl h
  | cons a r => rfl
theorem lastI_mem {one : List Int} (h : one ≠ []) : lastI one ∈ one := by
  have hl : one.length - 1 < one.length := by
    have := List.length_pos_iff.mpr h
    omega
  unfold lastI
  rw [List.getD_eq_getElem?_getD, List.getElem?_eq_getElem hl]
  exact List.getElem_mem hl
theorem subs_mem (left : List Int) : ∀ n, ∀ c ∈ subsL left n, c.length = n ∧ ∀ z ∈ c, z ∈ left
  | 0, c, h => by
    have : c = [] := List.mem_singleton.mp h
    subst this
    exact ⟨rfl, fun z hz => by cases hz⟩
  | n + 1, c, h => by
    obtain ⟨d, hd, hc⟩ := List.mem_flatMap.mp h
    obtain ⟨k, hk, rfl⟩ := List.mem_map.mp hc
    obtain ⟨h1, h2⟩ := subs_mem left n d hd
    refine ⟨by rw [List.length_append, h1]; rfl, fun z hz => ?_⟩
    rcases List.mem_append.mp hz with hz | hz
    · exact h2 z hz
    · rw [List.mem_singleton] at hz
      rw [hz]
      exact (List.mem_filter.mp hk).1
theorem grow_front {k : Int} {ks o : List Int} (so : (k :: ks).Pairwise (· < ·)) (ho : ∀ z ∈ o, z ∈ ks) : grow (k :: ks) (k :: o) = (grow ks o).map (k :: ·) := by
  obtain ⟨s1, s2⟩ := List.pairwise_cons.mp so
  unfold grow
  rw [List.map_map]
  have e : (k :: ks).filter (fun z => decide (k :: o = []) || decide (lastI (k :: o) < z)) = ks.filter fun z => decide (o = []) || decide (lastI o < z) := by
    have h0 : ¬ (lastI (k :: o) < k) := by
      by_cases c : o = []
      · subst c
        exact Int.lt_irrefl k
      · rw [lastI_cons c]
        have := s1 _ (ho _ (lastI_mem c))
        omega
    rw [List.filter_cons_of_neg (by simp [h0])]
    refine List.filter_congr fun z hz => ?_
    by_cases c : o = []
    · subst c
      have := s1 z hz
      have l1 : lastI [k] = k := rfl
      rw [l1]
      simp [this]
    · rw [lastI_cons c]
      simp [c]
  rw [e]
  rfl
theorem grow_rest {k : Int} {ks o : List Int} (so : (k :: ks).Pairwise (· < ·)) (ne : o ≠ []) (ho : ∀ z ∈ o, z ∈ ks) : grow (k :: ks) o = grow ks o := by
  obtain ⟨s1, s2⟩ := List.pairwise_cons.mp so
  unfold grow
  have := s1 _ (ho _ (lastI_mem ne))
  rw [List.filter_cons_of_neg (by simp only [ne, decide_false, Bool.false_or, decide_eq_true_eq]; omega)]
theorem subs_front {k : Int} {ks : List Int} (so : (k :: ks).Pairwise (· < ·)) : ∀ n, subsL (k :: ks) (n + 1) = (subsL ks n).map (k :: ·) ++ subsL ks (n + 1)
  | 0 => by
    show ([[]] : List (List Int)).flatMap (grow (k :: ks)) = ([[]] : List (List Int)).map (k :: ·) ++ ([[]] : List (List Int)).flatMap (grow ks)
    rw [List.flatMap_singleton, List.flatMap_singleton]
    have f : ∀ l : List Int, l.filter (fun z => decide (([] : List Int) = []) || decide (lastI [] < z)) = l := fun l => List.filter_eq_self.mpr fun x _ => by simp
    unfold grow
    rw [f, f]
    rfl
  | n + 1 => by
    show (subsL (k :: ks) (n + 1)).flatMap (grow (k :: ks)) = ((subsL ks n).flatMap (grow ks)).map (k :: ·) ++ (subsL ks (n + 1)).flatMap (grow ks)
    rw [subs_front so n, List.flatMap_append, List.map_flatMap]
    congr 1
    · rw [List.flatMap_map]
      refine congrArg List.flatten (List.map_congr_left fun o ho => ?_)
      exact grow_front so (subs_mem ks n o ho).2
    · refine congrArg List.flatten (List.map_congr_left fun o ho => ?_)
      obtain ⟨h1, h2⟩ := subs_mem ks (n + 1) o ho
      exact grow_rest so (fun z => by rw [z] at h1; cases h1) h2
theorem subs_en : ∀ (left : List Int) (n : Nat), left.Pairwise (· < ·) → subsL left n = en left n
  | left, 0, _ => by rw [en_zero]; rfl
  | [], n + 1, _ => by
    show (subsL [] n).flatMap (grow []) = []
    exact List.flatMap_eq_nil_iff.mpr fun x _ => rfl
  | k :: ks, n + 1, so => by
    have s2 := (List.pairwise_cons.mp so).2
    rw [subs_front so n, en_cons, subs_en ks n s2, subs_en ks (n + 1) s2]
/-! ### the rounds -/
def GG : List Int → List Int → List (List (List Int))
  | _, [] => [[]]
  | ks, s :: ss => (en ks s.toNat).flatMap fun c => (GG (behindI ks c 1) ss).map (c :: ·)
theorem behind1 {ks cs : List Int} : behindI ks cs 1 = (behindI ks cs 0).drop 1 := rfl
theorem behind_so {ks cs : List Int} {g : Int} (so : ks.Pairwise (· < ·)) : (behindI ks cs g).Pairwise (· < ·) := (so.filter _).sublist (List.drop_sublist _ _)
/-- the rounds so far with what is left behind them -/
def restP (b : Bool) (L : List Int) : List Int := if b = true then L.drop 1 else L
def step1 (b : Bool) (s : Int) (p : List (List Int) × List Int) : List (List (List Int) × List Int) := (subsL (restP b p.2) s.toNat).map fun c => (p.1 ++ [c], behindI (restP b p.2) c 0)
def accF : Bool → List (List (List Int) × List Int) → List Int → List (List (List Int) × List Int)
  | _, acc, [] => acc
  | b, acc, s :: ss => accF true (acc.flatMap (step1 b s)) ss
theorem restP_so {b : Bool} {L : List Int} (so : L.Pairwise (· < ·)) : (restP b L).Pairwise (· < ·) := by
  unfold restP
  split
  · exact so.sublist (List.drop_sublist _ _)
  · exact so
theorem step_so {b : Bool} {s : Int} {p : List (List Int) × List Int} (so : p.2.Pairwise (· < ·)) : ∀ q ∈ step1 b s p, q.2.Pairwise (· < ·) := fun q hq => by
  obtain ⟨c, _, rfl⟩ := List.mem_map.mp hq
  exact behind_so (restP_so so)
theorem accF_GG : ∀ (ss : List Int) (b : Bool) (acc : List (List (List Int) × List Int)), (∀ p ∈ acc, p.2.Pairwise (· < ·)) → (accF b acc ss).map Prod.fst = acc.flatMap fun p => (GG (restP b p.2) ss).map (p.1 ++ ·)
  | [], b, acc, _ => by
    show acc.map Prod.fst = acc.flatMap fun p => [p.1 ++ []]
    have : (fun p : List (List Int) × List Int => [p.1 ++ []]) = fun p => [p.1] := funext fun p => by rw [List.append_nil]
    rw [this]
    induction acc with
    | nil => rfl
    | cons a r ih => rw [List.map_cons, List.flatMap_cons, ← ih (fun p hp => by rename_i h; exact h p (List.mem_cons_of_mem _ hp))]; rfl
  | s :: ss, b, acc, so => by
    show (accF true (acc.flatMap (step1 b s)) ss).map Prod.fst = _
    rw [accF_GG ss true _ (fun q hq => by
      obtain ⟨p, hp, hq⟩ := List.mem_flatMap.mp hq
      exact step_so (so p hp) q hq), List.flatMap_assoc]
    refine congrArg List.flatten (List.map_congr_left fun p hp => ?_)
    unfold step1
    rw [subs_en (restP b p.2) _ (restP_so (so p hp)), List.flatMap_map]
    show _ = ((en (restP b p.2) s.toNat).flatMap fun c => (GG (behindI (restP b p.2) c 1) ss).map (c :: ·)).map (p.1 ++ ·)
    rw [List.map_flatMap]
    refine congrArg List.flatten (List.map_congr_left fun c _ => ?_)
    have e : restP true (behindI (restP b p.2) c 0) = behindI (restP b p.2) c 1 := rfl
    show (GG (restP true (behindI (restP b p.2) c 0)) ss).map (p.1 ++ [c] ++ ·) = _
    rw [e, List.map_map]
    refine List.map_congr_left fun x _ => ?_
    show p.1 ++ [c] ++ x = p.1 ++ (c :: x)
    rw [List.append_assoc]
    rfl
theorem range_mul (M : Nat) : ∀ C : Nat, List.range (C * M) = (List.range C).flatMap fun i => (List.range M).map fun j => i * M + j
  | 0 => by rw [Nat.zero_mul]; rfl
  | C + 1 => by
    rw [Nat.succ_mul, List.range_add, range_mul M C, List.range_succ, List.flatMap_append, List.flatMap_singleton]
theorem GG_rnd : ∀ (ss : List Int) (ks : List Int), ks.Nodup → ks.length ≤ 16 → (∀ z ∈ ss, 1 ≤ z) → GG ks ss = (List.range (manyI (ks.length : Int) ss 1).toNat).map fun r : Nat => rndA 1 ks ss (r : Int)
  | [], ks, _, _, _ => rfl
  | z :: ss, ks, nd, hk, hs => by
    have z1 := hs z List.mem_cons_self
    have hs' : ∀ z ∈ ss, 1 ≤ z := fun x hx => hs x (List.mem_cons_of_mem _ hx)
    obtain ⟨s, rfl⟩ : ∃ s : Nat, z = (s : Int) := ⟨z.toNat, by omega⟩
    show ((en ks (s : Int).toNat).flatMap fun c => (GG (behindI ks c 1) ss).map (c :: ·)) = _
    rw [Int.toNat_natCast, manyI_cons]
    by_cases c : (ks.length : Int) < (s : Int)
    · rw [if_pos c]
      have h0 : en ks s = [] := List.eq_nil_iff_forall_not_mem.mpr fun x hx => by
        obtain ⟨h1, h2⟩ := en_sub ks s x hx
        have := h1.length_le
        omega
      rw [h0]
      rfl
    · rw [if_neg c, many_sub hs']
      have Mle := many_le (g := 1) (by omega) ss (ks.length - s - 1) (by omega) hs'
      have cp := cn_pos ⟨ks.length, by omega⟩ ⟨s, by omega⟩
      simp only at cp
      obtain ⟨M, hM⟩ : ∃ M, M = manyI ((ks.length - s - 1 : Nat) : Int) ss 1 := ⟨_, rfl⟩
      rw [← hM] at Mle ⊢
      have e1 : (PySem.W.mcComb (ks.length : Int) (s : Int) * M).toNat = (Cn ks.length s).toNat * M.toNat := Int.toNat_mul cp.1 Mle.1
      rw [e1, range_mul, List.map_flatMap, en_chA ks s hk (by omega), List.flatMap_map]
      refine congrArg List.flatten (List.map_congr_left fun i hi => ?_)
      have hi' := List.mem_range.mp hi
      obtain ⟨sub, hl⟩ := chA_sub ks (i : Int) s hk (by omega) (by omega) (by omega)
      have bl := behind_length (g := 1) sub nd
      rw [nat1, hl] at bl
      rw [GG_rnd ss _ (behind_nodup nd) (by omega) hs', bl, ← hM, List.map_map, List.map_map]
      refine List.map_congr_left fun j hj => ?_
      have hj' := List.mem_range.mp hj
      show chA ks (i : Int) s :: rndA 1 (behindI ks (chA ks (i : Int) s) 1) ss (j : Int) = rndA 1 ks ((s : Int) :: ss) ((i * M.toNat + j : Nat) : Int)
      rw [rndA_cons, Int.toNat_natCast, many_sub hs', ← hM]
      have e2 : ((i * M.toNat + j : Nat) : Int) = (j : Int) + (i : Int) * M := by
        rw [Int.natCast_add, Int.natCast_mul, Int.toNat_of_nonneg Mle.1]
        omega
      have e3 : ((i * M.toNat + j : Nat) : Int) / M = (i : Int) := by
        rw [e2, Int.add_mul_ediv_right _ _ (by omega), Int.ediv_eq_zero_of_lt (by omega) (by omega)]
        omega
      have e4 : ((i * M.toNat + j : Nat) : Int) % M = (j : Int) := by
        rw [e2, Int.add_mul_emod_self_right, Int.emod_eq_of_lt (by omega) (by omega)]
      rw [e3, e4]
theorem GG_sorted : ∀ (ss : List Int) (ks : List Int), ks.Pairwise (· < ·) → (GG ks ss).Pairwise fun x y => lexL x y = true
  | [], ks, _ => List.pairwise_singleton _ _
  | s :: ss, ks, so => by
    show ((en ks s.toNat).flatMap fun c => (GG (behindI ks c 1) ss).map (c :: ·)).Pairwise _
    refine List.pairwise_flatMap.mpr ⟨fun c _ => ?_, (en_sorted ks _ so).imp fun {a b} h x hx y hy => ?_⟩
    · refine List.pairwise_map.mpr ((GG_sorted ss _ (behind_so so)).imp fun {a b} h => ?_)
      have z : lexL (c :: a) (c :: b) = lexL a b := lexG_eq
      rw [z]; exact h
    · obtain ⟨x', _, rfl⟩ := List.mem_map.mp hx
      obtain ⟨y', _, rfl⟩ := List.mem_map.mp hy
      have ne : a ≠ b := fun z => by
        subst z
        have := sto_I.asym _ _ h
        rw [h] at this
        cases this
      have z : lexL (a :: x') (b :: y') = lexI a b := lexG_ne ne
      rw [z]; exact h
/-- what the law lists: the rounds of each rank, in their order -/
theorem acc_GG {ks ss : List Int} (so : ks.Pairwise (· < ·)) : (accF false [([], ks)] ss).map Prod.fst = GG ks ss := by
  rw [accF_GG ss false _ (fun p hp => by rw [List.mem_singleton] at hp; rw [hp]; exact so), List.flatMap_singleton]
  show (GG ks ss).map (fun x => [] ++ x) = GG ks ss
  exact List.map_id' _
theorem list_all {ks ss : List Int} (so : ks.Pairwise (· < ·)) (hk : ks.length ≤ 16) (hs : ∀ z ∈ ss, 1 ≤ z) : (accF false [([], ks)] ss).map Prod.fst = (List.range (manyI (ks.length : Int) ss 1).toNat).map fun r : Nat => rndA 1 ks ss (r : Int) := by
  rw [acc_GG so]
  exact GG_rnd ss ks (so.imp fun h => Int.ne_of_lt h) hk hs
end L2.U


set_option Elab.async false
set_option linter.all false
set_option maxRecDepth 100000
set_option maxHeartbeats 4000000
namespace L2.U
open PySem PySem.Spec PyProof.Rows Evl TTS
theorem sub_sorted : ∀ {ls cs : List Int}, ls.Pairwise (· < ·) → cs.Pairwise (· < ·) → (∀ z ∈ cs, z ∈ ls) → cs.Sublist ls
  | [], [], _, _, _ => .slnil
  | [], c :: cs, _, _, h => by cases h c List.mem_cons_self
  | k :: ls, [], _, _, _ => List.nil_sublist _
  | k :: ls, c :: cs, so, sc, h => by
    obtain ⟨s1, s2⟩ := List.pairwise_cons.mp so
    obtain ⟨t1, t2⟩ := List.pairwise_cons.mp sc
    by_cases e : c = k
    · subst e
      exact (sub_sorted s2 t2 fun z hz => by
        rcases List.mem_cons.mp (h z (List.mem_cons_of_mem _ hz)) with r | r
        · have := t1 z hz; omega
        · exact r).cons_cons c
    · have hc : c ∈ ls := (List.mem_cons.mp (h c List.mem_cons_self)).resolve_left e
      have ck := s1 c hc
      exact (sub_sorted s2 sc fun z hz => by
        rcases List.mem_cons.mp (h z hz) with r | r
        · exfalso
          rcases List.mem_cons.mp hz with q | q
          · exact e (q.symm.trans r)
          · have := t1 z q; omega
        · exact r).cons k
theorem erase_flt : ∀ {ls : List Int} {k : Nat} {x : Int}, ls.Nodup → ls[k]? = some x → ls.eraseIdx k = ls.filter fun z => !decide (z = x)
  | [], _, _, _, h => by cases h
  | a :: ls, 0, x, nd, h => by
    obtain rfl := Option.some.inj h
    obtain ⟨n1, n2⟩ := List.nodup_cons.mp nd
    rw [List.filter_cons_of_neg (by simp)]
    show ls = _
    refine (List.filter_eq_self.mpr fun z hz => ?_).symm
    have : z ≠ a := by rintro rfl; exact n1 hz
    simp [this]
  | a :: ls, k + 1, x, nd, h => by
    obtain ⟨n1, n2⟩ := List.nodup_cons.mp nd
    have h' : ls[k]? = some x := h
    have hx : x ∈ ls := List.mem_of_getElem? h'
    have ne : a ≠ x := by rintro rfl; exact n1 hx
    rw [List.filter_cons_of_pos (by simp [ne])]
    show a :: ls.eraseIdx k = _
    rw [erase_flt n2 h']
/-- what is picked out of the left ones, and what stays -/
structure Pk (left cur ps : List Int) : Prop where
  stay : cur = left.filter fun z => !decide (z ∈ ps)
  nd : ps.Nodup
  inn : ∀ z ∈ ps, z ∈ left
theorem Pk.start {left : List Int} : Pk left left [] := ⟨(List.filter_eq_self.mpr fun z _ => by simp).symm, List.nodup_nil, fun z hz => by cases hz⟩
theorem Pk.pick {left cur ps : List Int} {k : Nat} {x : Int} (p : Pk left cur ps) (nd : left.Nodup) (h : cur[k]? = some x) : Pk left (cur.eraseIdx k) (ps ++ [x]) := by
  have hx := List.mem_of_getElem? h
  rw [p.stay] at hx
  obtain ⟨h1, h2⟩ := List.mem_filter.mp hx
  have h3 : x ∉ ps := by simpa using h2
  refine ⟨?_, ?_, fun z hz => ?_⟩
  · rw [erase_flt (p.stay ▸ nd.filter _) h, p.stay, List.filter_filter]
    refine List.filter_congr fun z _ => ?_
    by_cases a : z = x <;> by_cases b : z ∈ ps <;> simp [a, b]
  · rw [List.nodup_append]
    exact ⟨p.nd, List.nodup_cons.mpr ⟨(fun z => by cases z), List.nodup_nil⟩, fun a ha b hb e => by
      rw [List.mem_singleton] at hb
      exact h3 (hb ▸ e ▸ ha)⟩
  · rcases List.mem_append.mp hz with hz | hz
    · exact p.inn z hz
    · rw [List.mem_singleton] at hz; exact hz ▸ h1
theorem Pk.done {left cur ps ms : List Int} (p : Pk left cur ps) (so : left.Pairwise (· < ·)) (pm : ms.Perm ps) (le : ms.Pairwise (· ≤ ·)) : ms.Sublist left ∧ behindI left ms 0 = cur := by
  have nd : ms.Nodup := pm.symm.nodup p.nd
  have lt : ms.Pairwise (· < ·) := (le.and nd).imp fun {a b} h => by
    have h1 := h.1; have h2 := h.2; omega
  refine ⟨sub_sorted so lt fun z hz => p.inn z (pm.mem_iff.mp hz), ?_⟩
  rw [behind0, p.stay]
  refine List.filter_congr fun z _ => ?_
  have : (z ∈ ms) ↔ (z ∈ ps) := pm.mem_iff
  simp [this]
theorem chr_len : ∀ (rs : List (List Int)) (ks : List Int), ks.Nodup → ChR ks rs → rs.length ≤ ks.length ∧ ∀ c ∈ rs, c.length ≤ ks.length
  | [], ks, _, _ => ⟨Nat.zero_le _, fun c h => by cases h⟩
  | c :: cs, ks, nd, ⟨h1, h2, h3⟩ => by
    have l := behind_length (g := 1) h1 nd
    have hl := h1.length_le
    rw [nat1] at l
    obtain ⟨i1, i2⟩ := chr_len cs _ (behind_nodup nd) h3
    refine ⟨by rw [List.length_cons]; omega, fun d hd => ?_⟩
    rcases List.mem_cons.mp hd with rfl | hd
    · exact hl
    · have := i2 d hd; omega
/-! ### kinds and sizes as they are drawn -/
structure KOK (ks : List Int) : Prop where
  so : ks.Pairwise (· < ·)
  b : ∀ z ∈ ks, 1 ≤ z ∧ z ≤ 64
  l : ks.length ≤ 16
theorem KOK.nd {ks : List Int} (k : KOK ks) : ks.Nodup := k.so.imp fun h => Int.ne_of_lt h
structure SOK (ns : List Int) : Prop where
  b : ∀ z ∈ ns, 1 ≤ z ∧ z ≤ 17
  l : ns.length ≤ 16
def SeqD (d : PyData) (ns : List Int) : Prop := d = .list (ns.map PyData.int) ∨ d = .tuple (ns.map PyData.int)
theorem seqd_items {d : PyData} {ns : List Int} (h : SeqD d ns) : itemsD d = ns.map PyData.int ∧ isSeq d = true := by
  rcases h with rfl | rfl <;> exact ⟨rfl, rfl⟩
theorem ints_back {ns : List Int} : (ns.map PyData.int).map intD = ns := by
  rw [List.map_map]
  exact List.map_id' _
theorem seqd_nums {d : PyData} {ns : List Int} (h : SeqD d ns) : numsD d = ns := by
  unfold numsD
  rw [(seqd_items h).1, ints_back]
theorem asc_of {ns : List Int} (so : ns.Pairwise (· < ·)) : ascD (ns.map PyData.int) = true := by
  refine List.all_eq_true.mpr fun i hi => ?_
  rw [List.mem_range, List.length_map] at hi
  unfold ltD
  rw [List.getElem?_map, List.getElem?_map, List.getElem?_eq_getElem (show i < ns.length by omega), List.getElem?_eq_getElem (show i + 1 < ns.length by omega)]
  exact decide_eq_true (List.pairwise_iff_getElem.mp so i (i + 1) (by omega) (by omega) (by omega))
theorem kinds_ok {d : PyData} {ks : List Int} (h : SeqD d ks) (k : KOK ks) : kindsD d = true := by
  obtain ⟨h1, h2⟩ := seqd_items h
  unfold kindsD
  rw [h1, h2, asc_of k.so, List.length_map, decide_eq_true k.l]
  have : (ks.map PyData.int).all (betwD 1 64) = true := List.all_eq_true.mpr fun e he => by
    obtain ⟨z, hz, rfl⟩ := List.mem_map.mp he
    exact decide_eq_true (k.b z hz)
  rw [this]
  rfl
theorem sizes_ok {d : PyData} {ns : List Int} (h : SeqD d ns) (k : SOK ns) : sizesD d = true := by
  obtain ⟨h1, h2⟩ := seqd_items h
  unfold sizesD
  rw [h1, h2, List.length_map, decide_eq_true k.l]
  have : (ns.map PyData.int).all (fromD 1) = true := List.all_eq_true.mpr fun e he => by
    obtain ⟨z, hz, rfl⟩ := List.mem_map.mp he
    exact decide_eq_true (k.b z hz).1
  rw [this]
  rfl
def rowD (c : List Int) : PyData := .tuple (c.map PyData.int)
def rowsD (rs : List (List Int)) : PyData := .tuple (rs.map rowD)
theorem rows_back {rs : List (List Int)} : (itemsD (rowsD rs)).map intsOf = rs := by
  show (rs.map rowD).map intsOf = rs
  rw [List.map_map]
  have : (intsOf ∘ rowD) = fun c => c := funext fun c => ints_back
  rw [this]
  exact List.map_id' _
theorem roundsL_ok : ∀ (rs : List (List Int)) (ks : List Int), ks.Pairwise (· < ·) → ChR ks rs → roundsL ks (rs.map rowD) 1 = true
  | [], ks, _, _ => rfl
  | c :: cs, ks, so, ⟨h1, h2, h3⟩ => by
    rw [List.map_cons, roundsL_cons]
    have e : intsOf (rowD c) = c := ints_back
    rw [e, roundsL_ok cs (behindI ks c 1) (behind_so so) h3, Bool.and_true]
    show (!(c.map PyData.int).isEmpty && (c.map PyData.int).all (inD ks) && ascD (c.map PyData.int)) = true
    rw [asc_of (so.sublist h1)]
    have a : (c.map PyData.int).all (inD ks) = true := List.all_eq_true.mpr fun e he => by
      obtain ⟨z, hz, rfl⟩ := List.mem_map.mp he
      exact decide_eq_true (h1.subset hz)
    rw [a]
    cases c with
    | nil => cases h2
    | cons x r => rfl
theorem rounds_ok {rs : List (List Int)} {ks : List Int} (so : ks.Pairwise (· < ·)) (h : ChR ks rs) : roundsD ks 1 (rowsD rs) = true := roundsL_ok rs ks so h
end L2.U


set_option Elab.async false
set_option linter.all false
set_option maxRecDepth 100000
set_option maxHeartbeats 4000000
namespace L2.U
open PySem PySem.Spec PyProof.Rows Evl TTS
theorem rg_kok {a c : Int} (h1 : 1 ≤ a) (h2 : c ≤ 65) (h3 : (c - a).toNat ≤ 16) : ∃ ns : List Int, rgV a c = ns.map V.int ∧ ns.length = (c - a).toNat ∧ KOK ns := by
  refine ⟨(List.range (c - a).toNat).map fun i : Nat => a + (i : Int), ?_, by rw [List.length_map, List.length_range], ?_⟩
  · unfold rgV
    rw [List.map_map]
    rfl
  · refine ⟨List.pairwise_map.mpr (List.pairwise_lt_range.imp fun {x y} h => by omega), fun z hz => ?_, by rw [List.length_map, List.length_range]; exact h3⟩
    obtain ⟨i, hi, rfl⟩ := List.mem_map.mp hz
    have := List.mem_range.mp hi
    omega
/-- kinds as they grow -/
structure KGr (ns : List Int) (l : Int) (i : Nat) : Prop where
  so : ns.Pairwise (· < ·)
  b : ∀ z ∈ ns, 1 ≤ z ∧ z ≤ l
  len : ns.length = i
  l0 : 0 ≤ l
  l4 : l ≤ 4 * (i : Int)
theorem KGr.start : KGr [] 0 0 := ⟨List.Pairwise.nil, (fun z hz => by cases hz), rfl, by decide, by decide⟩
theorem KGr.snoc {ns : List Int} {l r : Int} {i : Nat} (k : KGr ns l i) (h0 : 0 ≤ r) (h1 : r < 4) : KGr (ns ++ [l + 1 + r]) (l + 1 + r) (i + 1) := by
  refine ⟨List.pairwise_append.mpr ⟨k.so, List.pairwise_singleton _ _, fun x hx y hy => ?_⟩, fun z hz => ?_, by rw [List.length_append, k.len]; rfl, ?_, ?_⟩
  · rw [List.mem_singleton] at hy
    have := (k.b x hx).2
    omega
  · rcases List.mem_append.mp hz with hz | hz
    · have := k.b z hz; omega
    · rw [List.mem_singleton] at hz; have := k.l0; omega
  · have := k.l0; omega
  · have := k.l4; omega
theorem KGr.kok {ns : List Int} {l : Int} {i : Nat} (k : KGr ns l i) (hi : i ≤ 16) : KOK ns := ⟨k.so, fun z hz => by have := k.b z hz; have := k.l4; omega, by rw [k.len]; exact hi⟩
/-- what is left behind rounds, before its least is dropped -/
def chainL : Bool → List Int → List (List Int) → List Int
  | _, L, [] => L
  | b, L, c :: cs => chainL true (behindI (restP b L) c 0) cs
def flg (b : Bool) {α : Type} : List α → Bool
  | [] => b
  | _ :: _ => true
theorem flg_true {α : Type} (l : List α) : flg true l = true := by cases l <;> rfl
theorem flg_cons {b : Bool} {α : Type} {x : α} {l : List α} : flg b (x :: l) = true := rfl
theorem flg_snoc {b : Bool} {α : Type} {x : α} {l : List α} : flg b (l ++ [x]) = true := by cases l <;> rfl
theorem chainL_snoc : ∀ (rs : List (List Int)) (b : Bool) (L c : List Int), chainL b L (rs ++ [c]) = behindI (restP (flg b rs) (chainL b L rs)) c 0
  | [], b, L, c => rfl
  | d :: rs, b, L, c => by
    show chainL true (behindI (restP b L) d 0) (rs ++ [c]) = behindI (restP true (chainL true (behindI (restP b L) d 0) rs)) c 0
    rw [chainL_snoc rs true, flg_true]
theorem chr_snoc : ∀ (rs : List (List Int)) (b : Bool) (L c : List Int), ChR (restP b L) rs → c.Sublist (restP (flg b rs) (chainL b L rs)) → 1 ≤ c.length → ChR (restP b L) (rs ++ [c])
  | [], b, L, c, _, h, l => ⟨h, l, trivial⟩
  | d :: rs, b, L, c, ⟨h1, h2, h3⟩, h, l => by
    refine ⟨h1, h2, ?_⟩
    have := chr_snoc rs true (behindI (restP b L) d 0) c h3 (by rw [flg_true]; exact h) l
    exact this
/-- all together, they are few -/
theorem many_six {ks ss : List Int} (hk : ks.length ≤ 6) (hs : ∀ z ∈ ss, 1 ≤ z) : 0 ≤ manyI (ks.length : Int) ss 1 ∧ manyI (ks.length : Int) ss 1 ≤ 720 := by
  have h := many_le (g := 1) (by omega) ss ks.length (by omega) hs
  have f := (fc_mono (a := ks.length) (b := 6) hk (by decide)).2
  have f6 : Fc 6 = 720 := by decide +kernel
  omega
end L2.U


set_option Elab.async false
set_option linter.all false
set_option maxRecDepth 100000
set_option maxHeartbeats 4000000
namespace L2.U
open PySem PySem.Spec PyProof.Rows Evl TTS
theorem map_int_inj : ∀ {xs ys : List Int}, xs.map V.int = ys.map V.int → xs = ys
  | [], [], _ => rfl
  | [], _ :: _, h => by cases h
  | _ :: _, [], h => by cases h
  | x :: xs, y :: ys, h => by
    rw [List.map_cons, List.map_cons] at h
    injection h with h1 h2
    injection h1 with h1
    rw [h1, map_int_inj h2]
def adV : V → Addr
  | .ref q => q
  | _ => 0
theorem RowsT.refs {H : Hp} {xs : List V} {rs : List (List Int)} (r : RowsT H xs rs) : xs = (xs.map adV).map V.ref := by
  rw [List.map_map]
  apply List.ext_getElem?
  intro i
  rw [List.getElem?_map]
  by_cases c : i < xs.length
  · have hr : rs[i]? = some (rs[i]'(by have := r.1; omega)) := List.getElem?_eq_getElem _
    obtain ⟨p, h1, h2⟩ := r.2 i _ _ (List.getElem?_eq_getElem c) hr
    rw [List.getElem?_eq_getElem c, h1]
    rfl
  · rw [List.getElem?_eq_none (by omega)]
    rfl
theorem RowsT.tt {H : Hp} {a : Addr} {xs : List V} {rs : List (List Int)} (r : RowsT H xs rs) (h : H a = some (.tup xs)) : TTat H (.ref a) rs := by
  refine ⟨a, xs.map adV, rfl, by rw [← r.refs]; exact h, by rw [List.length_map]; exact r.1, fun i q ns hq hn => ?_⟩
  rw [List.getElem?_map, Option.map_eq_some_iff] at hq
  obtain ⟨x, hx, rfl⟩ := hq
  obtain ⟨p, rfl, hp⟩ := r.2 i x ns hx hn
  exact hp
theorem refs_inj : ∀ {xs ys : List Addr}, xs.map V.ref = ys.map V.ref → xs = ys
  | [], [], _ => rfl
  | [], _ :: _, h => by cases h
  | _ :: _, [], h => by cases h
  | x :: xs, y :: ys, h => by
    rw [List.map_cons, List.map_cons] at h
    injection h with h1 h2
    injection h1 with h1
    rw [h1, refs_inj h2]
theorem tt_uniq {H : Hp} {x : V} {rs ss : List (List Int)} (h : TTat H x rs) (g : TTat H x ss) : rs = ss := by
  obtain ⟨a, qs, rfl, h1, h2, h3⟩ := h
  obtain ⟨b, ps, e, g1, g2, g3⟩ := g
  cases e
  rw [h1] at g1
  injection g1 with g1
  injection g1 with g1
  obtain rfl := refs_inj g1
  apply List.ext_getElem?
  intro i
  by_cases c : i < qs.length
  · have e1 : rs[i]? = some (rs[i]'(by omega)) := List.getElem?_eq_getElem _
    have e2 : ss[i]? = some (ss[i]'(by omega)) := List.getElem?_eq_getElem _
    have k1 := h3 i _ _ (List.getElem?_eq_getElem c) e1
    have k2 := g3 i _ _ (List.getElem?_eq_getElem c) e2
    rw [k1] at k2
    injection k2 with k2
    injection k2 with k2
    rw [e1, e2, map_int_inj k2]
  · rw [List.getElem?_eq_none (by omega), List.getElem?_eq_none (by omega)]
open Classical in
noncomputable def keyTT (H : Hp) (x : V) : List (List Int) := if h : ∃ rs, TTat H x rs then h.choose else []
theorem keyTT_eq {H : Hp} {x : V} {rs : List (List Int)} (h : TTat H x rs) : keyTT H x = rs := by
  unfold keyTT
  have e : ∃ rs, TTat H x rs := ⟨rs, h⟩
  rw [dif_pos e]
  exact tt_uniq e.choose_spec h
/-- the items of a list, each a tuple of rounds -/
def RowsTT (H : Hp) (xs : List V) (rss : List (List (List Int))) : Prop := xs.length = rss.length ∧ ∀ (j : Nat) (x : V) (rs : List (List Int)), xs[j]? = some x → rss[j]? = some rs → ∃ t ys, x = .ref t ∧ H t = some (.tup ys) ∧ RowsT H ys rs
theorem RowsTT.ex {H H' : Hp} {xs : List V} {rss : List (List (List Int))} (r : RowsTT H xs rss) (e : Ex H H') : RowsTT H' xs rss := ⟨r.1, fun j x rs hx hn => by
  obtain ⟨t, ys, h1, h2, h3⟩ := r.2 j x rs hx hn
  exact ⟨t, ys, h1, e _ _ h2, h3.ex e⟩⟩
theorem RowsTT.mut {H : Hp} {D : Addr} {ys zs xs : List V} {rss : List (List (List Int))} (r : RowsTT H xs rss) (h : H D = some (.lst ys)) : RowsTT (upd H D (.lst zs)) xs rss := ⟨r.1, fun j x rs hx hn => by
  obtain ⟨t, us, h1, h2, h3⟩ := r.2 j x rs hx hn
  refine ⟨t, us, h1, ?_, h3.mut h⟩
  rw [upd_ne (ne_of h2 h (by intro z; cases z))]
  exact h2⟩
theorem RowsTT.nil {H : Hp} : RowsTT H [] [] := ⟨rfl, fun j x rs hx _ => by cases hx⟩
theorem app_get {α : Type} {xs ys : List α} {j : Nat} {x : α} (h : (xs ++ ys)[j]? = some x) : (j < xs.length ∧ xs[j]? = some x) ∨ (xs.length ≤ j ∧ ys[j - xs.length]? = some x) := by
  by_cases c : j < xs.length
  · rw [List.getElem?_append_left c] at h
    exact .inl ⟨c, h⟩
  · rw [List.getElem?_append_right (by omega)] at h
    exact .inr ⟨by omega, h⟩
theorem RowsTT.app {H : Hp} {xs ys : List V} {rss sss : List (List (List Int))} (r : RowsTT H xs rss) (s : RowsTT H ys sss) : RowsTT H (xs ++ ys) (rss ++ sss) := by
  refine ⟨by rw [List.length_append, List.length_append, r.1, s.1], fun j x rs hx hn => ?_⟩
  rcases app_get hx with ⟨c, h⟩ | ⟨c, h⟩
  · rw [List.getElem?_append_left (by have := r.1; omega)] at hn
    exact r.2 j x rs h hn
  · rw [List.getElem?_append_right (by have := r.1; omega), ← r.1] at hn
    exact s.2 _ x rs h hn
theorem RowsTT.one {H : Hp} {t : Addr} {ys : List V} {rs : List (List Int)} (h : H t = some (.tup ys)) (r : RowsT H ys rs) : RowsTT H [.ref t] [rs] := ⟨rfl, fun j x ss hx hn => by
  match j, hx, hn with
  | 0, hx, hn => cases Option.some.inj hx; cases Option.some.inj hn; exact ⟨t, ys, rfl, h, r⟩⟩
theorem RowsTT.sort {H : Hp} {xs : List V} {rss : List (List (List Int))} (r : RowsTT H xs rss) (so : rss.Pairwise fun x y => lexL x y = true) (ne : 2 ≤ rss.length → ∀ x ∈ rss, x ≠ []) :
    (∀ x ∈ xs, TTat H x (keyTT H x) ∧ (2 ≤ xs.length → keyTT H x ≠ [])) ∧ xs.Pairwise (fun x y => lexL (keyTT H x) (keyTT H y) = true) := by
  have key : ∀ (j : Nat) (x : V), xs[j]? = some x → ∃ rs, rss[j]? = some rs ∧ TTat H x rs ∧ keyTT H x = rs := fun j x hx => by
    have hj := (List.getElem?_eq_some_iff.mp hx).1
    have hr : rss[j]? = some (rss[j]'(by have := r.1; omega)) := List.getElem?_eq_getElem _
    obtain ⟨t, ys, rfl, h2, h3⟩ := r.2 j x _ hx hr
    exact ⟨_, hr, h3.tt h2, keyTT_eq (h3.tt h2)⟩
  refine ⟨fun x hx => ?_, List.pairwise_iff_getElem.mpr fun i j hi hj hij => ?_⟩
  · obtain ⟨j, hj⟩ := List.mem_iff_getElem?.mp hx
    obtain ⟨rs, h1, h2, h3⟩ := key j x hj
    rw [h3]
    exact ⟨h2, fun z => ne (by rw [← r.1]; exact z) rs (List.mem_of_getElem? h1)⟩
  · obtain ⟨r1, h1, _, h3⟩ := key i _ (List.getElem?_eq_getElem hi)
    obtain ⟨r2, g1, _, g3⟩ := key j _ (List.getElem?_eq_getElem hj)
    rw [h3, g3]
    obtain ⟨a1, rfl⟩ := List.getElem?_eq_some_iff.mp h1
    obtain ⟨a2, rfl⟩ := List.getElem?_eq_some_iff.mp g1
    exact List.pairwise_iff_getElem.mp so i j a1 a2 hij
theorem RowsTT.snoc {H : Hp} {t : Addr} {xs us : List V} {rss : List (List (List Int))} {rs : List (List Int)} (r : RowsTT H xs rss) (h : H t = some (.tup us)) (r2 : RowsT H us rs) : RowsTT H (xs ++ [.ref t]) (rss ++ [rs]) := r.app (RowsTT.one h r2)
/-- the items of a list, each a pair of rounds and what is left behind them -/
def RowsP (ok : Addr → Prop) (H : Hp) (xs : List V) (ps : List (List (List Int) × List Int)) : Prop := xs.length = ps.length ∧ ∀ (j : Nat) (x : V) (p : List (List Int) × List Int), xs[j]? = some x → ps[j]? = some p → ∃ t r l us, x = .ref t ∧ H t = some (.tup [.ref r, .ref l]) ∧ H r = some (.tup us) ∧ RowsT H us p.1 ∧ H l = some (.lst (p.2.map V.int)) ∧ ok l
section
variable {ok ok' : Addr → Prop} {H H' : Hp} {xs ys : List V} {ps qs : List (List (List Int) × List Int)}
theorem RowsP.ex (r : RowsP ok H xs ps) (e : Ex H H') : RowsP ok H' xs ps := ⟨r.1, fun j x p hx hn => by
  obtain ⟨t, q, l, us, h1, h2, h3, h4, h5, h6⟩ := r.2 j x p hx hn
  exact ⟨t, q, l, us, h1, e _ _ h2, e _ _ h3, h4.ex e, e _ _ h5, h6⟩⟩
theorem RowsP.of (r : RowsP ok H xs ps) (w : ∀ a, ok a → ok' a) : RowsP ok' H xs ps := ⟨r.1, fun j x p hx hn => by
  obtain ⟨t, q, l, us, h1, h2, h3, h4, h5, h6⟩ := r.2 j x p hx hn
  exact ⟨t, q, l, us, h1, h2, h3, h4, h5, w _ h6⟩⟩
theorem RowsP.new {A : Addr} (r : RowsP ok H xs ps) (hA : H A = none) : RowsP (fun a => a ≠ A) H xs ps := ⟨r.1, fun j x p hx hn => by
  obtain ⟨t, q, l, us, h1, h2, h3, h4, h5, h6⟩ := r.2 j x p hx hn
  exact ⟨t, q, l, us, h1, h2, h3, h4, h5, by rintro rfl; rw [hA] at h5; cases h5⟩⟩
theorem RowsP.mut {D : Addr} {us zs : List V} (r : RowsP ok H xs ps) (h : H D = some (.lst us)) (w : ∀ a, ok a → a ≠ D) : RowsP ok (upd H D (.lst zs)) xs ps := ⟨r.1, fun j x p hx hn => by
  obtain ⟨t, q, l, vs, h1, h2, h3, h4, h5, h6⟩ := r.2 j x p hx hn
  refine ⟨t, q, l, vs, h1, ?_, ?_, h4.mut h, ?_, h6⟩
  · rw [upd_ne (ne_of h2 h (by intro z; cases z))]; exact h2
  · rw [upd_ne (ne_of h3 h (by intro z; cases z))]; exact h3
  · rw [upd_ne (w l h6)]; exact h5⟩
theorem RowsP.nil : RowsP ok H [] [] := ⟨rfl, fun j x p hx _ => by cases hx⟩
theorem RowsP.app (r : RowsP ok H xs ps) (s : RowsP ok H ys qs) : RowsP ok H (xs ++ ys) (ps ++ qs) := by
  refine ⟨by rw [List.length_append, List.length_append, r.1, s.1], fun j x p hx hn => ?_⟩
  rcases app_get hx with ⟨c, h⟩ | ⟨c, h⟩
  · rw [List.getElem?_append_left (by have := r.1; omega)] at hn
    exact r.2 j x p h hn
  · rw [List.getElem?_append_right (by have := r.1; omega), ← r.1] at hn
    exact s.2 _ x p h hn
theorem RowsP.one {t r l : Addr} {us : List V} {rs : List (List Int)} {L : List Int} (h : H t = some (.tup [.ref r, .ref l])) (h2 : H r = some (.tup us)) (h3 : RowsT H us rs) (h4 : H l = some (.lst (L.map V.int))) (o : ok l) : RowsP ok H [.ref t] [(rs, L)] := ⟨rfl, fun j x p hx hn => by
  match j, hx, hn with
  | 0, hx, hn => cases Option.some.inj hx; cases Option.some.inj hn; exact ⟨t, r, l, us, rfl, h, h2, h3, h4, o⟩⟩
end
theorem accF_snoc : ∀ (ss : List Int) (b : Bool) (acc : List (List (List Int) × List Int)) (s : Int), accF b acc (ss ++ [s]) = (accF b acc ss).flatMap (step1 (flg b ss) s)
  | [], b, acc, s => rfl
  | t :: ss, b, acc, s => by
    show accF true (acc.flatMap (step1 b t)) (ss ++ [s]) = (accF true (acc.flatMap (step1 b t)) ss).flatMap (step1 true s)
    rw [accF_snoc ss true, flg_true]
theorem accF_len {ks ss : List Int} (so : ks.Pairwise (· < ·)) (hk : ks.length ≤ 6) (hs : ∀ z ∈ ss, 1 ≤ z) : (accF false [([], ks)] ss).length ≤ 720 := by
  have e : (accF false [([], ks)] ss).length = ((accF false [([], ks)] ss).map Prod.fst).length := (List.length_map ..).symm
  rw [e, list_all so (by omega) hs, List.length_map, List.length_range]
  have := many_six (ss := ss) hk hs
  omega
theorem restP_len {b : Bool} {L : List Int} : (restP b L).length ≤ L.length := by
  unfold restP
  split
  · rw [List.length_drop]; omega
  · exact Nat.le_refl _
theorem acc_left {m : Nat} : ∀ (ss : List Int) (b : Bool) (acc : List (List (List Int) × List Int)), (∀ p ∈ acc, p.2.length ≤ m ∧ p.2.Pairwise (· < ·)) → ∀ p ∈ accF b acc ss, p.2.length ≤ m ∧ p.2.Pairwise (· < ·)
  | [], _, acc, h, p, hp => h p hp
  | s :: ss, b, acc, h, p, hp => acc_left ss true _ (fun q hq => by
      obtain ⟨r, hr, hq⟩ := List.mem_flatMap.mp hq
      obtain ⟨h1, h2⟩ := h r hr
      obtain ⟨c, _, rfl⟩ := List.mem_map.mp hq
      exact ⟨Nat.le_trans behind_len (Nat.le_trans restP_len h1), behind_so (restP_so h2)⟩) p hp
theorem flatMap_take {α β : Type} {f : α → List β} {xs : List α} {i : Nat} {x : α} (h : xs[i]? = some x) : (xs.take (i + 1)).flatMap f = (xs.take i).flatMap f ++ f x := by
  rw [List.take_add_one, h, List.flatMap_append]
  show _ ++ [x].flatMap f = _
  rw [List.flatMap_singleton]
theorem flatMap_take_len {α β : Type} {f : α → List β} {xs : List α} {i : Nat} : ((xs.take i).flatMap f).length ≤ (xs.flatMap f).length := by
  conv => rhs; rw [← List.take_append_drop i xs, List.flatMap_append, List.length_append]
  omega
end L2.U


set_option Elab.async false
set_option linter.all false
set_option maxRecDepth 100000
set_option maxHeartbeats 4000000
namespace L2.U
open PySem PySem.Spec PyProof.Rows Evl TTS
theorem en_len : ∀ (ks : List Int) (s : Nat), (en ks s).length ≤ 2 ^ ks.length
  | ks, 0 => by
    rw [en_zero]
    exact Nat.one_le_two_pow
  | [], s + 1 => Nat.zero_le _
  | k :: ks, s + 1 => by
    have h1 := en_len ks s
    have h2 := en_len ks (s + 1)
    rw [en_cons, List.length_append, List.length_map, List.length_cons, Nat.pow_succ]
    omega
theorem subs_len {left : List Int} (so : left.Pairwise (· < ·)) (h : left.length ≤ 6) (n : Nat) : (subsL left n).length ≤ 64 := by
  rw [subs_en left n so]
  have h1 := en_len left n
  have h2 : 2 ^ left.length ≤ 2 ^ 6 := Nat.pow_le_pow_right (by decide) h
  omega
theorem acc_sorted {ks ss : List Int} (so : ks.Pairwise (· < ·)) : ((accF false [([], ks)] ss).map Prod.fst).Pairwise fun x y => lexL x y = true := by
  rw [acc_GG so]
  exact GG_sorted ss ks so
theorem acc_ne {ks ss : List Int} (so : ks.Pairwise (· < ·)) (hk : ks.length ≤ 16) (hs : ∀ z ∈ ss, 1 ≤ z) (h : 2 ≤ ((accF false [([], ks)] ss).map Prod.fst).length) : ∀ x ∈ (accF false [([], ks)] ss).map Prod.fst, x ≠ [] := by
  intro x hx
  cases ss with
  | nil =>
    have e : ((accF false [([], ks)] []).map Prod.fst).length = 1 := rfl
    omega
  | cons s ss =>
    rw [list_all so hk hs] at hx
    obtain ⟨r, _, rfl⟩ := List.mem_map.mp hx
    intro z
    rw [rndA_cons] at z
    cases z
theorem subsL_succ {left : List Int} {n : Nat} : subsL left (n + 1) = (subsL left n).flatMap (grow left) := rfl
end L2.U


set_option Elab.async false
set_option linter.all false
set_option maxRecDepth 100000
set_option maxHeartbeats 4000000
namespace L2.U
open PySem PySem.Spec PyProof.Rows Evl TTS



abbrev s_law_choose : Stmt := top 43
theorem sc_law_choose : FnScope ["many", "few", "found", "k"] ["many", "few"] (defScope s_law_choose) := ⟨rfl, rfl, rfl, by decide +kernel, rfl, by decide +kernel, by decide +kernel⟩
abbrev s_law_many : Stmt := top 44
theorem sc_law_many : FnScope ["count", "sizes", "found", "size"] ["count", "sizes"] (defScope s_law_many) := ⟨rfl, rfl, rfl, by decide +kernel, rfl, by decide +kernel, by decide +kernel⟩
abbrev s_law_ahead : Stmt := top 45
theorem sc_law_ahead : FnScope ["left", "one", "found", "last", "place", "kind", "other"] ["left", "one"] (defScope s_law_ahead) := ⟨rfl, rfl, rfl, by decide +kernel, rfl, by decide +kernel, by decide +kernel⟩
abbrev s_law_walk : Stmt := top 46
theorem sc_law_walk : FnScope ["wires", "rounds", "left", "lefts", "answers", "at", "wire"] ["wires", "rounds"] (defScope s_law_walk) := ⟨rfl, rfl, rfl, by decide +kernel, rfl, by decide +kernel, by decide +kernel⟩
abbrev s_law_rank : Stmt := top 47
theorem sc_law_rank : FnScope ["wires", "rounds", "lefts", "found", "at", "behind_v", "one"] ["wires", "rounds"] (defScope s_law_rank) := ⟨rfl, rfl, rfl, by decide +kernel, rfl, by decide +kernel, by decide +kernel⟩
abbrev s_law_are_raised : Stmt := top 48
theorem sc_law_are_raised : FnScope ["told", "wires", "sizes", "left", "at", "one", "wire", "k"] ["told", "wires", "sizes"] (defScope s_law_are_raised) := ⟨rfl, rfl, rfl, by decide +kernel, rfl, by decide +kernel, by decide +kernel⟩
abbrev s_law_listing : Stmt := top 49
theorem sc_law_listing : FnScope ["wires", "sizes", "found", "at", "longer", "rounds", "left", "rest", "some", "turn", "more", "one", "wire"] ["wires", "sizes"] (defScope s_law_listing) := ⟨rfl, rfl, rfl, by decide +kernel, rfl, by decide +kernel, by decide +kernel⟩
abbrev s_law_told : Stmt := top 50
theorem sc_law_told : FnScope ["kind", "named", "passed", "error"] ["kind", "named", "passed"] (defScope s_law_told) := ⟨rfl, rfl, rfl, by decide +kernel, rfl, by decide +kernel, by decide +kernel⟩
abbrev s_law_right : Stmt := top 51
theorem sc_law_right : FnScope ["kind", "named", "values", "passed", "told", "rank", "wires", "sizes", "one"] ["kind", "named", "values"] (defScope s_law_right) := ⟨rfl, rfl, rfl, by decide +kernel, rfl, by decide +kernel, by decide +kernel⟩
abbrev s_law_wires : Stmt := top 52
theorem sc_law_wires : FnScope ["box", "count", "way", "found", "last", "turn"] ["box", "count"] (defScope s_law_wires) := ⟨rfl, rfl, rfl, by decide +kernel, rfl, by decide +kernel, by decide +kernel⟩
abbrev s_law_sizes : Stmt := top 53
theorem sc_law_sizes : FnScope ["box", "count", "way", "left", "found", "turn", "size"] ["box", "count"] (defScope s_law_sizes) := ⟨rfl, rfl, rfl, by decide +kernel, rfl, by decide +kernel, by decide +kernel⟩
abbrev s_law_drawn : Stmt := top 54
theorem sc_law_drawn : FnScope ["box", "wires", "sizes", "left", "found", "least", "size", "rest", "one", "turn"] ["box", "wires", "sizes"] (defScope s_law_drawn) := ⟨rfl, rfl, rfl, by decide +kernel, rfl, by decide +kernel, by decide +kernel⟩
abbrev s_law_asked : Stmt := top 55
theorem sc_law_asked : FnScope ["box", "count", "wires", "sizes", "many", "number", "turn", "rounds", "more", "tuples", "handed", "some", "found", "rank"] ["box", "count"] (defScope s_law_asked) := ⟨rfl, rfl, rfl, by decide +kernel, rfl, by decide +kernel, by decide +kernel⟩
abbrev s_law_whole : Stmt := top 56
theorem sc_law_whole : FnScope ["wires", "sizes", "named", "listing", "rank", "way"] ["wires", "sizes", "named"] (defScope s_law_whole) := ⟨rfl, rfl, rfl, by decide +kernel, rfl, by decide +kernel, by decide +kernel⟩
abbrev s_law : Stmt := top 57
theorem sc_law : FnScope ["script", "k", "box", "named", "few", "great", "asked", "turn", "at"] ["script"] (defScope s_law) := ⟨rfl, rfl, rfl, by decide +kernel, rfl, by decide +kernel, by decide +kernel⟩
def kw312 {α : Type} : List α → List α → List α
  | [], [a, b, c] => [c, a, b]
  | _, _ => []
theorem kw312_rel {vs : List V} {us : List Value} {zs : List V} {ws : List Value} (r : Vals vs us) (t : Vals zs ws) : Vals (kw312 vs zs) (kw312 us ws) := by
  cases r with
  | cons _ _ => cases t <;> exact .nil
  | nil => cases t with
    | nil => exact .nil
    | cons a t => cases t with
      | nil => exact .nil
      | cons b t => cases t with
        | nil => exact .nil
        | cons c t => cases t with
          | nil => exact .cons c (.cons a (.cons b .nil))
          | cons _ _ => exact .nil
theorem kb312 {K : PySem.W.Frag} {x qual : Str} {st : Stmt} {f : Addr} {fd : FuncData} {p q r k l m : Str} (F : Fun K x qual st f fd)
    (h : ∀ (kV doc pm : Value) (an : Option Addr) (cdv ct : Value) (u w z : Value), bindArgs (PySem.W.fnOf x qual (defArgs st) (defBody st) (defScope st) .none kV doc pm an cdv ct) ⟨[], [(k, u), (l, w), (m, z)]⟩ = pure [(p, z), (q, u), (r, w)]) : KBinds K fd [p, q, r] [k, l, m] kw312 kw312 := by
  obtain ⟨oc, od, kV, doc, pm, an, cdv, ct, osl, rfl, lk, hcd⟩ := F.ex
  refine ⟨fun s us ws _ hl => ?_, kw312_rel⟩
  match us, ws, hl with
  | [], [u, w, z], _ => exact .of_eq (h kV doc pm an cdv ct u w z)
structure TK (K : PySem.W.Frag) (mg : Str → Option Value) extends TA2 K mg where
  law_choose : DefAt K mg "_law_choose" s_law_choose ["many", "few"]
  law_many : DefAt K mg "_law_many" s_law_many ["count", "sizes"]
  law_ahead : DefAt K mg "_law_ahead" s_law_ahead ["left", "one"]
  law_walk : DefAt K mg "_law_walk" s_law_walk ["wires", "rounds"]
  law_rank : DefAt K mg "_law_rank" s_law_rank ["wires", "rounds"]
  law_are_raised : DefAt K mg "_law_are_raised" s_law_are_raised ["told", "wires", "sizes"]
  law_listing : DefAt K mg "_law_listing" s_law_listing ["wires", "sizes"]
  law_told : DefAt K mg "_law_told" s_law_told ["kind", "named", "passed"]
  law_right : DefAt K mg "_law_right" s_law_right ["kind", "named", "values"]
  law_wires : DefAt K mg "_law_wires" s_law_wires ["box", "count"]
  law_sizes : DefAt K mg "_law_sizes" s_law_sizes ["box", "count"]
  law_drawn : DefAt K mg "_law_drawn" s_law_drawn ["box", "wires", "sizes"]
  law_asked : DefAt K mg "_law_asked" s_law_asked ["box", "count"]
  law_whole : DefAt K mg "_law_whole" s_law_whole ["wires", "sizes", "named"]
  law : DefAt K mg "law" s_law ["script"]
  kb_many_raised_sizes_count : KBinds K many_raised.fd ["count", "sizes"] ["sizes", "count"] kw21 kw21
  kb_raised_of_wires_sizes_rank : KBinds K raised_of.fd ["rank", "wires", "sizes"] ["wires", "sizes", "rank"] kw312 kw312
  kb_raised_rank_wires_rounds : KBinds K raised_rank.fd ["rounds", "wires"] ["wires", "rounds"] kw21 kw21
  kb_answers_of_wires_rounds : KBinds K answers_of.fd ["rounds", "wires"] ["wires", "rounds"] kw21 kw21
  TalkError_C : Addr
  TalkError_gC : mg "TalkError" = some (.ref TalkError_C)
  eRR : PySem.W.exmOne K (.ref InvalidRank.C) (.ref InvalidRank.C) = some true
  z_max : mg "max" = none
  z_min : mg "min" = none
  z_sorted : mg "sorted" = none
section
variable {P : Program} {w : World} {K : PySem.W.Frag} {mg : Str → Option Value} {base : Heap}
theorem two_le : 2 ≤ sizeLine := by decide
theorem ksorted {X : Cx} (K : PySem.W.Frag) (h : X.K = K := by rfl) : CallR X (.builtin "sorted") (rSorted K) := by subst h; exact cr_sorted
section
variable {X : Cx} {o e : Expr} {es : List Expr} {to : TE} {t : TA} {name : Str} {apos cpos : Pos} {T id : String} {r : V → List V → Hp → VK → Prop}
theorem pe_bmK (K : PySem.W.Frag) (pa : PlainAttrs T) (slot : Slot T name id) (hty : typeOf (.builtin id) = pure (.type "method_descriptor")) (hm : MtR X id r) (ho : PE X o to) (ha : PA X (e :: es) t) (hk : X.K = K := by rfl)
    (hbase : attributeBase o name X.env (eval o X.env) = eval o X.env := by rfl)
    (hfew : ((backTo cpos (starEach (e :: es) X.env)).all (fun x => !x.1) && (backToKw cpos (keywordEach [] X.env)).all (fun x => x.1.isSome)
      && decide ((e :: es).length + ([] : List Keyword).length + (if ([] : List Keyword).isEmpty then 0 else 1) < 30)) = true := by rfl)
    (hline : (apos.endLine == cpos.line) = true := by rfl) (hs : starEach (e :: es) X.env = (false, eval e X.env) :: starEach es X.env := by rfl) (hplain : (backTo cpos (starEach es X.env)).any (·.1) = false := by rfl) :
    PE X (.Call (.Attribute o name apos) (e :: es) [] cpos) (tBM K T r to t) := by
  subst hk
  exact pe_bm pa slot hty hm ho ha hbase hfew hline hs hplain
end
theorem kpopAt {X : Cx} (K : PySem.W.Frag) (h : X.K = K := by rfl) : MtM X "list.pop" rPopAt := mt_popAt

theorem Rd.lstD {ok : Addr → Prop} {H : Hp} {n : Nat} {xs : List V} {ds : List PyData} (r : RdL K ok H n xs ds) (hn : n ≤ 60) : SeqAt.shaped (.list ds) = true := by
  have lay := layAll_of (ds := ds) (n := n) fun d hd => by
    obtain ⟨i, hi⟩ := List.mem_iff_getElem?.mp hd
    have hlt := (List.getElem?_eq_some_iff.mp hi).1
    exact (r.2 i _ d (List.getElem?_eq_getElem (by rw [r.1]; exact hlt)) hi).lay
  simp only [SeqAt.shaped, PyData.canLay0, PyData.depth, lay.1, Bool.true_and]
  exact decide_eq_true (by omega)

theorem eq_empty_b {ok : Addr → Prop} {ta : TE} {σ : L2.St} {H : Hp} {n : Nat} {xs : List V} {ds : List PyData} (h : EvL ta σ H xs) (r : ∀ H2, Ex H H2 → RdL K ok H2 n xs ds) (hn : n ≤ 60) : Ev (tOp (rEqD K) ta (tLst tNil)) σ H (.bl ds.isEmpty) := by
  refine ev_opLL h (el_lst ea_nil (Nat.zero_le _)) fun p q H1 hp hq e1 => rv_val fun H2 e2 Q k => ?_
  have r2 := r H2 (e1.trans e2)
  refine ⟨.list ds, .list [], .lst (SqL.of (e2 _ _ hp)) (dpAll_of r2.1 fun i x d hx hd => (r2.2 i x d hx hd).dp), .lst (SqL.of (e2 _ _ hq)) .nil, Rd.lstD r2 hn, rfl, ?_⟩
  cases ds with
  | nil => exact k
  | cons d ds => exact k

theorem ne_empty_b {ok : Addr → Prop} {ta : TE} {σ : L2.St} {H : Hp} {n : Nat} {xs : List V} {ds : List PyData} (h : EvL ta σ H xs) (r : ∀ H2, Ex H H2 → RdL K ok H2 n xs ds) (hn : n ≤ 60) : Ev (tOp (rNeD K) ta (tLst tNil)) σ H (.bl (!ds.isEmpty)) := by
  refine ev_opLL h (el_lst ea_nil (Nat.zero_le _)) fun p q H1 hp hq e1 => rv_val fun H2 e2 Q k => ?_
  have r2 := r H2 (e1.trans e2)
  refine ⟨.list ds, .list [], .lst (SqL.of (e2 _ _ hp)) (dpAll_of r2.1 fun i x d hx hd => (r2.2 i x d hx hd).dp), .lst (SqL.of (e2 _ _ hq)) .nil, Rd.lstD r2 hn, rfl, ?_⟩
  cases ds with
  | nil => exact k
  | cons d ds => exact k

theorem getD_some {α : Type} {xs : List α} {i : Nat} (d : α) (h : i < xs.length) : xs[i]? = some (xs.getD i d) := by
  rw [List.getD_eq_getElem?_getD, List.getElem?_eq_getElem h]; rfl

theorem given_rd {ok : Addr → Prop} {H : Hp} {n : Nat} {xs : List V} {ds : List PyData} (f : Nat → Bool) (r : RdL K ok H n xs ds) : RdL K ok H n (given xs.length f (fun i => xs.getD i .non)) (((List.range xs.length).filter f).map (fun i => ds.getD i .none)) := by
  unfold given
  refine ⟨by rw [List.length_map, List.length_map], fun i x e hx he => ?_⟩
  rw [List.getElem?_map] at hx he
  cases hk : ((List.range xs.length).filter f)[i]? with
  | none => rw [hk] at hx; cases hx
  | some k =>
    rw [hk] at hx he
    obtain rfl := Option.some.inj hx
    obtain rfl := Option.some.inj he
    have km := List.mem_of_getElem? hk
    rw [List.mem_filter, List.mem_range] at km
    exact r.2 k _ _ (getD_some _ km.1) (getD_some _ (by rw [← r.1]; exact km.1))

theorem given_emp {n : Nat} {α : Type} {ds : List PyData} {f : Nat → Bool} {p : PyData → Bool} {g : Nat → α} (l : n = ds.length) (h : ∀ i e, ds[i]? = some e → f i = !p e) : (((List.range n).filter f).map g).isEmpty = ds.all p := by
  rw [Bool.eq_iff_iff, List.isEmpty_iff, List.map_eq_nil_iff, List.filter_eq_nil_iff, List.all_eq_true]
  constructor
  · intro hh e he
    obtain ⟨k, hk⟩ := List.mem_iff_getElem?.mp he
    have hlt := (List.getElem?_eq_some_iff.mp hk).1
    have := hh k (by rw [List.mem_range]; omega)
    rw [h k e hk] at this
    simpa using this
  · intro hh k hk
    rw [List.mem_range] at hk
    have hd : ds[k]? = some (ds[k]'(by omega)) := List.getElem?_eq_getElem _
    rw [h k _ hd, hh _ (List.getElem_mem _)]
    decide

theorem rdl_ints {ok : Addr → Prop} {H : Hp} {n : Nat} (ns : List Int) : RdL K ok H n (ns.map V.int) (ns.map PyData.int) := by
  refine ⟨by rw [List.length_map, List.length_map], fun i x d hx hd => ?_⟩
  obtain ⟨z, hz, rfl⟩ := ints_get hx
  rw [List.getElem?_map, hz] at hd
  obtain rfl := Option.some.inj hd
  exact .int z

theorem given_ints {n : Nat} (f : Nat → Bool) : given n f (fun i => V.int (i : Int)) = (((List.range n).filter f).map (fun i : Nat => (i : Int))).map V.int := by
  unfold given
  rw [List.map_map]
  rfl

theorem given_idx {n : Nat} {f g : Nat → Bool} (h : ∀ i, i < n → f i = !g i) : ((((List.range n).filter f).map (fun i : Nat => (i : Int))).map PyData.int).isEmpty = (List.range n).all g := by
  rw [Bool.eq_iff_iff, List.isEmpty_iff, List.map_eq_nil_iff, List.map_eq_nil_iff, List.filter_eq_nil_iff, List.all_eq_true]
  constructor
  · intro hh e he
    have := hh e he
    rw [h e (List.mem_range.mp he)] at this
    simpa using this
  · intro hh k hk
    rw [h k (List.mem_range.mp hk), hh k hk]
    decide

theorem cn_step : ∀ n : Fin 17, ∀ k : Fin 17, k.val < n.val → (Cn n.val k.val * ((n.val : Int) - (k.val : Int))) / ((k.val : Int) + 1) = Cn n.val (k.val + 1) := by decide +kernel

theorem hu2 {A : Around} {k : Nat} (hr : Room k A) : A.in1.in1.units < cLine := Nat.lt_of_le_of_lt (Nat.add_le_add_left (by decide : 2 ≤ 64) _) hr.units
theorem ksortedTT {X : Cx} (K : PySem.W.Frag) (hu : X.A.in1.in1.units < cLine) (h : X.K = K := by rfl) : CallR X (.builtin "sorted") (rSortedTT K) := by subst h; exact cr_sortedTT hu
def dumEnv (sc : Scope) : Env := { scope := sc, locals := 0, globals := 0, cells := [], qual := "", func := none, code := .none, frame := none, builtins := 0 }
def lcs_law_listing : Scope := relabel (match (defBody s_law_listing).getD 1 (.Pass ⟨0, 0, 0, 0⟩) with
  | .For _ _ [_, .For _ _ [_, _, _, .Expr (.Call _ [.ListComp _ _ sc _] _ _) _] _ _, _] _ _ => sc
  | _ => defScope s_law_listing) (dumEnv (defScope s_law_listing))
def spChoose : Sp := fun vs H Q _ => ∃ n s : Nat, vs = [.int (n : Int), .int (s : Int)] ∧ n ≤ 16 ∧ s ≤ 17 ∧ Q (.int (Cn n s)) H
theorem ok_law_choose (T : TK K mg) : FnOk P w K mg base CX0 1 T.law_choose.a T.law_choose.fd ["many", "few"] spChoose := by
  refine T.law_choose.F.ok sc_law_choose (fun vs H Q E h => ?_) (fun cdv A outer s H vs Q E hr h => ?_)
  · obtain ⟨n, s, rfl, _⟩ := h; rfl
  obtain ⟨n, m, rfl, hn, hz, q⟩ := h
  refine ⟨_, (pss_cons (ps_if (pt_cmpR op_gt (pv 1) (pv 0) (nomark _)) (pss_one (ps_ret pe_int)) pss_nil)
    (pss_cons (ps_set (i := 2) sc_law_choose.nd rfl (Or.inl rfl) pe_int)
    (pss_cons (ps_for PassesOwn.never rfl (pi_range1 rfl T.z_range (pa_cons (pv 1) pa_nil)) (pg_name (i := 3) sc_law_choose.nd rfl (Or.inl rfl)) (pss_one (ps_set (i := 2) sc_law_choose.nd rfl (Or.inl rfl) (pe_op op_fdiv (pe_op op_mul (pv 2) (pe_op op_sub (pv 0) (pv 3))) (pe_op op_add (pv 3) pe_int)))))
    (pss_one (ps_ret (pv 2)))))), ?_⟩
  refine ⟨_, rfl, _, rfl, _, _, rfl, rfl, _, rfl, ite2 (fun c => ?_) (fun c => ?_)⟩
  · have c' := of_decide_eq_true c
    rw [(cn_pos ⟨n, by omega⟩ ⟨m, by omega⟩).2.2.2 (by show n < m; omega)] at q
    exact q
  · have c' : ¬ (n : Int) < (m : Int) := of_decide_eq_false (Bool.eq_false_iff.mpr c)
    refine ⟨_, rfl, _, rfl, by omega, by omega, for_range (lo := 0) (n := ((m : Int)).toNat) (fun i σ H' => H' = H ∧ ∃ v, σ = [some (.int (n : Int)), some (.int (m : Int)), some (.int (Cn n i)), v]) ⟨rfl, none, by rw [cn_zero ⟨n, by omega⟩]; rfl⟩ ?_ ?_⟩
    · rintro i σ H' hi ⟨rfl, v, rfl⟩
      have st := cn_step ⟨n, by omega⟩ ⟨i, by omega⟩ (show i < n by omega)
      have ps := cn_pos ⟨n, by omega⟩ ⟨i, by omega⟩
      simp only at st ps
      refine ⟨_, rfl, _, rfl, _, rfl, _, _, rfl, rfl, _, _, rfl, rfl, ?_, _, rfl, _, _, rfl, rfl, _, _, rfl, rfl, ?_, ?_⟩
      · exact .inr ⟨by omega, by omega⟩
      · exact ⟨by omega, by omega⟩
      · have st' : Cn n i * ((n : Int) - (0 + (i : Int))) / (0 + (i : Int) + 1) = Cn n (i + 1) := by rw [Int.zero_add]; exact st
        exact ⟨rfl, some (.int (0 + (i : Int))), by rw [← st']; rfl⟩
    · rintro σ H' ⟨rfl, v, rfl⟩
      exact ⟨_, rfl, q⟩
def spLMany (K : PySem.W.Frag) : Sp := fun vs H Q _ => ∃ (c : Int) (a : Addr) (ns : List Int), vs = [.int c, .ref a] ∧ (SqL K H a (ns.map V.int) ∨ SqT K H a (ns.map V.int)) ∧ c ≤ 16 ∧ (∀ z ∈ ns, 1 ≤ z ∧ z ≤ 17) ∧ Q (.int (manyI c ns 1)) H
theorem ok_law_many (T : TK K mg) : FnOk P w K mg base CX0 2 T.law_many.a T.law_many.fd ["count", "sizes"] (spLMany K) := by
  refine T.law_many.F.ok sc_law_many (fun vs H Q E h => ?_) (fun cdv A outer s H vs Q E hr h => ?_)
  · obtain ⟨c, a, ns, rfl, _⟩ := h; rfl
  obtain ⟨c, a, ns, rfl, hs, hc, hn, q⟩ := h
  refine ⟨_, (pss_cons (ps_set (i := 2) sc_law_many.nd rfl (Or.inl rfl) pe_int)
    (pss_cons (ps_for PassesOwn.never rfl (kpis K (pv 1)) (pg_name (i := 3) sc_law_many.nd rfl (Or.inl rfl)) (pss_cons (ps_set (i := 2) sc_law_many.nd rfl (Or.inl rfl) (pe_op op_mul (pv 2) (pe_call (ok_law_choose T) (hr.mono (by decide)) rfl T.law_choose.m T.law_choose.F.kp T.law_choose.b .nil pass0 (pa_cons (pe_callB (call_max2 rfl) (by rfl) T.z_max (by decide +kernel) (pa_cons pe_int (pa_cons (pv 0) pa_nil))) (pa_cons (pv 3) pa_nil)))))
    (pss_one (ps_set (i := 0) sc_law_many.nd rfl (Or.inl rfl) (pe_op op_sub (pe_op op_sub (pv 0) (pv 3)) pe_int)))))
    (pss_one (ps_ret (pv 2))))), ?_⟩
  have turn : ∀ (i : Nat) (x : V) (σ : L2.St), (ns.map V.int)[i]? = some x → (∃ (R : Int) (l : Int) (v : Option V), σ = [some (.int l), some (.ref a), some (.int R), v] ∧ l ≤ 16 ∧ manyI c ns 1 = R * manyI l (ns.drop i) 1) →
      gName 3 x σ H fun σ2 H3 => tSeq (tAsg (tOp (rI CMul fun i j => .int (i * j)) (tVar 2) (tCall spChoose [] E0 (tCons (tCB (fun xs H Q => ∃ i j, xs = [V.int i, V.int j] ∧ Q (V.int (if j > i then j else i)) H) (tCons (tC (V.int 0)) (tCons (tVar 0) tNil))) (tCons (tVar 3) tNil)))) (gName 2))
        (tAsg (tOp (rI0 fun i j => .int (i - j)) (tOp (rI0 fun i j => .int (i - j)) (tVar 0) (tVar 3)) (tC (V.int 1))) (gName 0))
        { nx := fun σ' H' => H' = H ∧ ∃ (R : Int) (l : Int) (v : Option V), σ' = [some (.int l), some (.ref a), some (.int R), v] ∧ l ≤ 16 ∧ manyI c ns 1 = R * manyI l (ns.drop (i + 1)) 1, rt := Q } σ2 H3 := by
    rintro i x σ hx ⟨R, l, v, rfl, hl, hm⟩
    obtain ⟨z, hz, rfl⟩ := ints_get hx
    obtain ⟨hi, ez⟩ := List.getElem?_eq_some_iff.mp hz
    obtain ⟨h1, h17⟩ := hn z (List.mem_of_getElem? hz)
    obtain ⟨s, rfl⟩ : ∃ s : Nat, z = (s : Int) := ⟨z.toNat, by omega⟩
    rw [← List.getElem_cons_drop hi, ez] at hm
    rw [manyI_cons] at hm
    obtain ⟨n, hn0, hn1⟩ : ∃ n : Nat, (if l > 0 then l else 0) = (n : Int) ∧ n = l.toNat := ⟨l.toNat, by split <;> omega, rfl⟩
    have cp := cn_pos ⟨n, by omega⟩ ⟨s, by omega⟩
    simp only at cp
    refine ⟨_, rfl, _, rfl, _, _, rfl, ?_⟩
    rw [hn0]
    refine ⟨_, rfl, n, s, rfl, by omega, by omega, _, _, rfl, rfl, .inr ⟨by omega, by omega⟩, ?_⟩
    refine ⟨_, rfl, _, rfl, _, _, rfl, rfl, _, _, rfl, rfl, ?_⟩
    refine ⟨rfl, R * Cn n s, l - s - 1, _, rfl, by omega, ?_⟩
    by_cases cz : l < (s : Int)
    · rw [if_pos cz, Int.mul_zero] at hm
      rw [hm, cp.2.2.2 (by omega), Int.mul_zero, Int.zero_mul]
    · rw [if_neg cz, ← Int.mul_assoc] at hm
      have el : l = (n : Int) := by omega
      rw [hm, el]
      rfl
  have fin : ∀ σ H', (H' = H ∧ ∃ (R : Int) (l : Int) (v : Option V), σ = [some (.int l), some (.ref a), some (.int R), v] ∧ l ≤ 16 ∧ manyI c ns 1 = R * manyI l (ns.drop (ns.map V.int).length) 1) → tRet (tVar 2) { nx := fun _ H' => Q .non H', rt := Q } σ H' := by
    rintro σ H' ⟨rfl, R, l, v, rfl, _, hm⟩
    rw [List.length_map, List.drop_length] at hm
    rw [manyI_nil, Int.mul_one] at hm
    rw [hm] at q
    exact ⟨_, rfl, q⟩
  have one : manyI c ns 1 = 1 * manyI c (ns.drop 0) 1 := by rw [Int.one_mul]; rfl
  rcases hs with hs2 | hs2
  · exact .inl ⟨_, rfl, a, rfl, ⟨_, hs2⟩, for_list (xs := ns.map V.int) (fun i σ H' => H' = H ∧ ∃ (R : Int) (l : Int) (v : Option V), σ = [some (.int l), some (.ref a), some (.int R), v] ∧ l ≤ 16 ∧ manyI c ns 1 = R * manyI l (ns.drop i) 1) ⟨rfl, _, _, _, rfl, hc, one⟩
      (fun i σ H' _ ⟨e, _⟩ => e ▸ hs2) (fun i x σ H' hx ⟨e, hv⟩ => e ▸ turn i x σ hx hv) fin⟩
  · exact .inr ⟨_, rfl, a, rfl, ⟨_, hs2⟩, for_tup (xs := ns.map V.int) (fun i σ H' => H' = H ∧ ∃ (R : Int) (l : Int) (v : Option V), σ = [some (.int l), some (.ref a), some (.int R), v] ∧ l ≤ 16 ∧ manyI c ns 1 = R * manyI l (ns.drop i) 1) ⟨rfl, _, _, _, rfl, hc, one⟩
      (fun i σ H' _ ⟨e, _⟩ => e ▸ hs2) (fun i x σ H' hx ⟨e, hv⟩ => e ▸ turn i x σ hx hv) fin⟩

end
end L2.U


set_option Elab.async false
set_option linter.all false
set_option maxRecDepth 100000
set_option maxHeartbeats 4000000
namespace L2.U
open PySem PySem.Spec PyProof.Rows Evl

section
variable {P : Program} {w : World} {K : PySem.W.Frag} {mg : Str → Option Value} {base : Heap}
theorem given_flt {ls : List Int} {p : Int → Bool} : given ls.length (fun i => p (ls.getD i 0)) (fun i => V.int (ls.getD i 0)) = (ls.filter p).map V.int := by
  unfold given
  have e : (List.range ls.length).map (fun k => ls.getD k 0) = ls := by
    apply List.ext_getElem?
    intro i
    rw [List.getElem?_map]
    by_cases c : i < ls.length
    · rw [List.getElem?_range c, List.getElem?_eq_getElem c, Option.map_some, List.getD_eq_getElem?_getD, List.getElem?_eq_getElem c]
      rfl
    · rw [List.getElem?_eq_none (by rw [List.length_range]; omega), List.getElem?_eq_none (by omega)]
      rfl
  conv => rhs; rw [← e]
  rw [List.filter_map, List.map_map]
  rfl
theorem el_flt {σ : L2.St} {H : Hp} {a : Addr} {ls : List Int} {tl : TE} {t : TT} {j : Nat} {vs : List Nat} (p : Int → Bool) (h : Ev tl σ H (.ref a)) (hx : SqL K H a (ls.map V.int)) (hz : ls.length ≤ 900)
    (hw : ∀ x, wipe ((wipe σ vs).set j (some x)) vs = wipe σ vs) (hv : ∀ x, ((wipe σ vs).set j (some x))[j]? = some (some x)) (ht : ∀ (z : Int) H1, Ex H H1 → z ∈ ls → EvT t ((wipe σ vs).set j (some (.int z))) H1 (p z)) :
    EvL (tLc (iList K tl) (gName j) t (tVar j) vs) σ H ((ls.filter p).map V.int) := by
  have key : ∀ (i : Nat) (x : V), (ls.map V.int)[i]? = some x → x = .int (ls.getD i 0) ∧ ls.getD i 0 ∈ ls := fun i x hx => by
    obtain ⟨z, hz, rfl⟩ := ints_get hx
    have e : ls.getD i 0 = z := by rw [List.getD_eq_getElem?_getD, hz]; rfl
    rw [e]
    exact ⟨rfl, List.mem_of_getElem? hz⟩
  have c := el_lcL (K := K) (σ := σ) (H := H) (tl := tl) (t := t) (te := tVar j) (j := j) (vs := vs) (xs := ls.map V.int) (fun i => p (ls.getD i 0)) (fun i => .int (ls.getD i 0)) h hx (by rw [List.length_map]; omega) hw
    (fun i x H1 e hi => by
      obtain ⟨e1, e2⟩ := key i x hi
      subst e1
      exact ht _ H1 e e2)
    (fun i x H1 e hi _ => by
      obtain ⟨e1, e2⟩ := key i x hi
      subst e1
      exact ev_var (hv _))
  rw [List.length_map, given_flt] at c
  exact c
theorem gn_ {i : Nat} {v : V} {σ : L2.St} {H : Hp} {k : L2.St → Hp → Prop} (h : k (σ.set i (some v)) H) : gName i v σ H k := h
theorem seq_for {te : TE} {g : TG} {tb rest : TS} {D : Ends} {σ : L2.St} {H : Hp} {xs : List V} (h : EvL te σ H xs) (q : ∀ L H2, H L = none → Ex H H2 → H2 L = some (.lst xs) → tSeq (tFor (iList K (tC (.ref L))) g tb) rest D σ H2) : tSeq (tFor (iList K te) g tb) rest D σ H := h H (Ex.refl _) _ q
theorem ev_len {te : TE} {σ : L2.St} {H : Hp} {xs : List V} (h : EvL te σ H xs) : Ev (tCB (rLen K) (tCons te tNil)) σ H (.int (xs.length : Int)) := fun H0 e Q q => h H0 e _ fun p H1 hp e1 hx => ⟨_, xs.length, rfl, .inl ⟨_, SqL.of hx, rfl⟩, q H1 e1⟩
theorem ev_lenV {te : TE} {σ : L2.St} {H : Hp} {a : Addr} {xs : List V} (h : Ev te σ H (.ref a)) (hx : SqL K H a xs ∨ SqT K H a xs) : Ev (tCB (rLen K) (tCons te tNil)) σ H (.int (xs.length : Int)) := fun H0 e Q q => h H0 e _ fun H1 e1 => ⟨_, xs.length, rfl, hx.imp (fun z => ⟨_, ex_l (e.trans e1) z, rfl⟩) (fun z => ⟨_, ex_t (e.trans e1) z, rfl⟩), q H1 e1⟩
theorem ev_choose {ta : TA} {σ : L2.St} {H : Hp} {n s : Nat} (h : EvA ta σ H [.int (n : Int), .int (s : Int)]) (hn : n ≤ 16) (hs : s ≤ 17) : Ev (tCall spChoose [] E0 ta) σ H (.int (Cn n s)) := fun H0 e Q q => h H0 e _ fun H1 e1 => ⟨n, s, rfl, hn, hs, q H1 e1⟩
theorem ev_asg {i : Nat} {te : TE} {v : V} {D : Ends} {σ : L2.St} {H : Hp} (h : Ev te σ H v) (q : ∀ H', Ex H H' → D.nx (σ.set i (some v)) H') : tAsg te (gName i) D σ H := h H (Ex.refl _) _ q
def spAhead (K : PySem.W.Frag) : Sp := fun vs H Q _ => ∃ (a b : Addr) (ls cs : List Int), vs = [.ref a, .ref b] ∧ SqL K H a (ls.map V.int) ∧ SqT K H b (cs.map V.int) ∧ ls.length ≤ 16 ∧ ls.Pairwise (· < ·) ∧ (∀ z ∈ ls, 1 ≤ z) ∧ cs.Sublist ls ∧ ∀ H', Ex H H' → Q (.int (crk cs ls)) H'
theorem ok_law_ahead (T : TK K mg) : FnOk P w K mg base CX0 2 T.law_ahead.a T.law_ahead.fd ["left", "one"] (spAhead K) := by
  refine T.law_ahead.F.ok sc_law_ahead (fun vs H Q E h => ?_) (fun cdv A outer s H vs Q E hr h => ?_)
  · obtain ⟨a, b, ls, cs, rfl, _⟩ := h; rfl
  obtain ⟨a, b, ls, cs, rfl, ha, hb, hl16, so, pos, sub, q⟩ := h
  refine ⟨_, (pss_cons (ps_asg (pe_tup (pa_cons pe_int (pa_cons pe_int pa_nil))) (pg_tup (by rfl) (pgs_cons (pg_name (i := 2) sc_law_ahead.nd rfl (Or.inl rfl)) (pgs_cons (pg_name (i := 3) sc_law_ahead.nd rfl (Or.inr rfl)) pgs_nil))))
    (pss_cons (ps_for PassesOwn.never rfl (pi_range1 rfl T.z_range (pa_cons (pe_callB (klen K) (by rfl) T.z_len (by decide +kernel) (pa_cons (pv 1) pa_nil)) pa_nil)) (pg_name (i := 4) sc_law_ahead.nd rfl (Or.inr rfl)) (pss_cons (ps_for PassesOwn.never rfl (kpil K (pe_lc (own := [("other", 6)]) (g := gName 6) (by rfl) sc_law_ahead.nd (kpil K (pv 0)) (blkOk_by (own := [("other", 6)]) (N := ["left", "one", "found", "last", "place", "kind", "other"]) (sc := defScope s_law_ahead) (by decide +kernel)) (fun _ _ _ _ _ => (pg_name (i := 6) sc_law_ahead.nd rfl (Or.inl rfl))) (fun _ _ _ _ _ => (pts_one (pt_chain op_lt op_lt (pv 3) (pv 6) (pe_ix (kixt K) (pv 1) (pv 4) (fun _ _ => rfl))))) (fun _ _ _ _ _ => (pv 6)))) (pg_name (i := 5) sc_law_ahead.nd rfl (Or.inr rfl)) (pss_one (ps_set (i := 2) sc_law_ahead.nd rfl (Or.inl rfl) (pe_op op_add (pv 2) (pe_call (ok_law_choose T) (hr.mono (by decide)) rfl T.law_choose.m T.law_choose.F.kp T.law_choose.b .nil pass0 (pa_cons (pe_callB (klen K) (by rfl) T.z_len (by decide +kernel) (pa_cons (pe_lc (own := [("other", 6)]) (g := gName 6) (by rfl) sc_law_ahead.nd (kpil K (pv 0)) (blkOk_by (own := [("other", 6)]) (N := ["left", "one", "found", "last", "place", "kind", "other"]) (sc := defScope s_law_ahead) (by decide +kernel)) (fun _ _ _ _ _ => (pg_name (i := 6) sc_law_ahead.nd rfl (Or.inl rfl))) (fun _ _ _ _ _ => (pts_one (pt_cmpR op_gt (pv 6) (pv 5) (nomark _)))) (fun _ _ _ _ _ => (pv 6))) pa_nil)) (pa_cons (pe_op op_sub (pe_op op_sub (pe_callB (klen K) (by rfl) T.z_len (by decide +kernel) (pa_cons (pv 1) pa_nil)) (pv 4)) pe_int) pa_nil)))))))
    (pss_one (ps_set (i := 3) sc_law_ahead.nd rfl (Or.inr rfl) (pe_ix (kixt K) (pv 1) (pv 4) (fun _ _ => rfl))))))
    (pss_one (ps_ret (pv 2))))), ?_⟩
  have hcl := sub.length_le
  refine ⟨two_le, fun t ht => ⟨t, _, rfl, SqT.of upd_same, rfl, _, _, rfl, _, _, rfl, rfl, ?_⟩⟩
  have e1 := Ex.new (o := .tup [.int 0, .int 0]) ht
  generalize upd H t (.tup [.int 0, .int 0]) = H1 at e1 ⊢
  refine ⟨_, rfl, _, cs.length, rfl, .inr ⟨_, ex_t e1 hb, (List.length_map ..).symm⟩, _, rfl, by omega, by omega, for_range (lo := 0) (n := cs.length) (fun i σ H' => Ex H H' ∧ ∃ (fd last : Int) (v4 v5 : Option V), crk cs ls = fd + ahd ls last (cs.drop i) ∧ σ = [some (.ref a), some (.ref b), some (.int fd), some (.int last), v4, v5, none])
    ⟨e1, 0, 0, _, _, by rw [List.drop_zero, ahd_all so pos sub, Int.zero_add], rfl⟩ ?_ ?_⟩
  · rintro i σ H' hi ⟨e, fd, last, v4, v5, hm, rfl⟩
    rw [Int.zero_add]
    obtain ⟨c, hc⟩ : ∃ c, cs[i]? = some c := ⟨_, List.getElem?_eq_getElem hi⟩
    have hcg := (List.getElem?_eq_some_iff.mp hc).2
    have hcV : (cs.map V.int)[i]? = some (.int c) := by rw [List.getElem?_map, hc]; rfl
    rw [List.drop_eq_getElem_cons hi, hcg] at hm
    have hm' : crk cs ls = fd + (gapS ls last c (cs.drop (i + 1)).length + ahd ls c (cs.drop (i + 1))) := hm
    have c1 := el_flt (K := K) (σ := [some (.ref a), some (.ref b), some (.int fd), some (.int last), some (.int (i : Int)), v5, none]) (H := H') (tl := tVar 0) (j := 6) (vs := [6]) (ls := ls) (t := tTest (tChain (rI0 fun i j => V.bl (decide (i < j))) (rI0 fun i j => V.bl (decide (i < j))) (tVar 3) (tVar 6) (tOp (rIxT K) (tVar 1) (tVar 4)))) (fun o => decide (last < o ∧ o < c)) (ev_var rfl) (ex_l e ha) (by omega) (fun _ => rfl) (fun _ => rfl)
      (fun z H2 e2 hz H3 e3 Q k => by
        refine ⟨_, rfl, _, rfl, _, _, rfl, rfl, _, rfl, ite2 (fun d => ?_) (fun d => ?_)⟩
        · have d := of_decide_eq_true d
          refine ⟨_, rfl, _, rfl, b, _, _, .int c, rfl, rfl, ex_t ((e.trans e2).trans e3) hb, atI_nat hcV, _, _, rfl, rfl, _, rfl, ?_⟩
          have := k H3 (Ex.refl _)
          rw [show decide (last < z ∧ z < c) = decide (z < c) from decide_eq_decide.mpr ⟨fun h => h.2, fun h => ⟨d, h⟩⟩] at this
          exact this
        · have d := of_decide_eq_false (Bool.eq_false_iff.mpr d)
          refine ⟨_, rfl, ?_⟩
          have := k H3 (Ex.refl _)
          rw [decide_eq_false (fun h : last < z ∧ z < c => d h.1)] at this
          exact this)
    obtain ⟨g, hg⟩ : ∃ g, g = ls.filter fun o => decide (last < o ∧ o < c) := ⟨_, rfl⟩
    rw [← hg] at c1
    refine gn_ ?_
    refine seq_for c1 fun L H2 hL e2 hLv => ⟨L, rfl, ⟨_, SqL.of hLv⟩, for_list (xs := g.map V.int) (fun j σ G => Ex H2 G ∧ ∃ v5 : Option V, σ = [some (.ref a), some (.ref b), some (.int (fd + ((g.take j).map fun k => Cn (ls.filter fun o => decide (k < o)).length (cs.drop (i + 1)).length).sum)), some (.int last), some (.int (i : Int)), v5, none])
      ⟨Ex.refl _, v5, by rw [List.take_zero]; show _ = [_, _, some (V.int (fd + 0)), _, _, _, _]; rw [Int.add_zero]; rfl⟩ (fun j σ G _ p => SqL.of (p.1 _ _ hLv)) ?_ ?_⟩
    · rintro j x σ G hj ⟨eg, v5', rfl⟩
      obtain ⟨k, hk, rfl⟩ := ints_get hj
      have e3 := (e.trans e2).trans eg
      have c2 := el_flt (K := K) (σ := [some (.ref a), some (.ref b), some (.int (fd + ((g.take j).map fun k => Cn (ls.filter fun o => decide (k < o)).length (cs.drop (i + 1)).length).sum)), some (.int last), some (.int (i : Int)), some (.int k), none]) (H := G) (tl := tVar 0) (j := 6) (vs := [6]) (ls := ls) (t := tTest (tOp (rI0 fun i j => V.bl (decide (j < i))) (tVar 6) (tVar 5))) (fun o => decide (k < o)) (ev_var rfl) (ex_l e3 ha) (by omega) (fun _ => rfl) (fun _ => rfl)
        (fun z H2 e2 hz => et_test (ev_op (ev_var rfl) (ev_var rfl) rv_I0))
      have fl := List.length_filter_le (fun o => decide (k < o)) ls
      have l1 := ev_len (K := K) c2
      rw [List.length_map] at l1
      have l2 := ev_lenV (K := K) (te := tVar 1) (σ := [some (.ref a), some (.ref b), some (.int (fd + ((g.take j).map fun k => Cn (ls.filter fun o => decide (k < o)).length (cs.drop (i + 1)).length).sum)), some (.int last), some (.int (i : Int)), some (.int k), none]) (H := G) (ev_var rfl) (.inr (ex_t e3 hb))
      rw [List.length_map] at l2
      have l3 : Ev (tOp (rI0 fun i j => V.int (i - j)) (tOp (rI0 fun i j => V.int (i - j)) (tCB (rLen K) (tCons (tVar 1) tNil)) (tVar 4)) (tC (V.int 1))) [some (.ref a), some (.ref b), some (.int (fd + ((g.take j).map fun k => Cn (ls.filter fun o => decide (k < o)).length (cs.drop (i + 1)).length).sum)), some (.int last), some (.int (i : Int)), some (.int k), none] G (.int ((cs.drop (i + 1)).length : Int)) := by
        rw [show ((cs.drop (i + 1)).length : Int) = (cs.length : Int) - (i : Int) - 1 by rw [List.length_drop]; omega]
        exact ev_op (ev_op l2 (ev_var rfl) rv_I0) ev_c rv_I0
      have l4 := ev_choose (ea_cons l1 (ea_cons l3 ea_nil)) (by omega) (by rw [List.length_drop]; omega)
      refine gn_ (ev_asg (i := 2) (ev_op (r := rI0 fun i j => V.int (i + j)) (ev_var rfl) l4 rv_I0) fun G2 eg2 => ⟨eg.trans eg2, some (.int k), ?_⟩)
      rw [List.take_add_one, hk, List.map_append, List.sum_append, ← Int.add_assoc]
      show _ = [_, _, some (V.int (_ + (_ + 0))), _, _, _, _]
      rw [Int.add_zero]
      rfl
    · rintro σ G ⟨eg, v5', rfl⟩
      rw [List.length_map, List.take_length]
      refine ⟨_, rfl, _, rfl, b, _, _, .int c, rfl, rfl, ex_t ((e.trans e2).trans eg) hb, atI_nat hcV, (e.trans e2).trans eg, _, c, _, _, ?_, rfl⟩
      rw [hm', hg]
      show _ = fd + gapS ls last c (cs.drop (i + 1)).length + ahd ls c (cs.drop (i + 1))
      rw [Int.add_assoc]
  · rintro σ H' ⟨e, fd, last, v4, v5, hm, rfl⟩
    rw [List.drop_length] at hm
    have hm' : crk cs ls = fd := by rw [hm]; exact Int.add_zero _
    refine ⟨_, rfl, ?_⟩
    rw [← hm']
    exact q H' e
end
end L2.U


set_option Elab.async false
set_option linter.all false
set_option maxRecDepth 100000
set_option maxHeartbeats 4000000
namespace L2.U
open PySem PySem.Spec PyProof.Rows Evl

section
variable {P : Program} {w : World} {K : PySem.W.Frag} {mg : Str → Option Value} {base : Heap}
theorem el_seq {i : Nat} {te : TE} {xs : List V} {rest : TS} {D : Ends} {σ : L2.St} {H : Hp} (h : EvL te σ H xs) (q : ∀ p H', H p = none → Ex H H' → H' p = some (.lst xs) → rest D (σ.set i (some (.ref p))) H') : tSeq (tAsg te (gName i)) rest D σ H := h H (Ex.refl _) _ q
def SqI' (H : Hp) (a : Addr) (ns : List Int) : Prop := H a = some (.lst (ns.map V.int)) ∨ H a = some (.tup (ns.map V.int))
theorem ne_of_none' {H : Hp} {a p : Addr} {o : HO} (h : H a = some o) (hp : H p = none) : p ≠ a := by rintro rfl; rw [h] at hp; cases hp
/-- what is left ahead of each round -/
def leftsI : List Int → List (List Int) → List (List Int)
  | _, [] => []
  | ks, c :: cs => ks :: leftsI (behindI ks c 1) cs
def ansB : Bool → List Int → List (List Int) → List Int
  | _, _, [] => []
  | b, L, c :: cs => (if b = true then [L.getD 0 0] else []) ++ ansB true (behindI (restP b L) c 0) cs
theorem ansI_B : ∀ (cs : List (List Int)) (ks c : List Int), ansI ks (c :: cs) = ansB true (behindI ks c 0) cs
  | [], ks, c => rfl
  | d :: ds, ks, c => by
    rw [ansI_cons, ansI_B ds (behindI ks c 1) d]
    rfl
theorem ansI_all {ks : List Int} {rs : List (List Int)} : ansI ks rs = ansB false ks rs := by
  cases rs with
  | nil => rfl
  | cons c cs => rw [ansI_B]; rfl
theorem lefts_len : ∀ (rs : List (List Int)) (ks : List Int), (leftsI ks rs).length = rs.length
  | [], _ => rfl
  | c :: cs, ks => by
    show (leftsI (behindI ks c 1) cs).length + 1 = cs.length + 1
    rw [lefts_len cs]
/-- the items of a list, each a list of ints -/
def RowsL (ok : Addr → Prop) (H : Hp) (xs : List V) (ls : List (List Int)) : Prop := xs.length = ls.length ∧ ∀ (j : Nat) (x : V) (l : List Int), xs[j]? = some x → ls[j]? = some l → ∃ q, x = .ref q ∧ H q = some (.lst (l.map V.int)) ∧ ok q
section
variable {ok ok' : Addr → Prop} {H H' : Hp} {xs ys : List V} {ls ms : List (List Int)}
theorem RowsL.ex (r : RowsL ok H xs ls) (e : Ex H H') : RowsL ok H' xs ls := ⟨r.1, fun j x p hx hn => by
  obtain ⟨q, h1, h2, h3⟩ := r.2 j x p hx hn
  exact ⟨q, h1, e _ _ h2, h3⟩⟩
theorem RowsL.mut {D : Addr} {zs : List V} (r : RowsL ok H xs ls) (w : ∀ a, ok a → a ≠ D) : RowsL ok (upd H D (.lst zs)) xs ls := ⟨r.1, fun j x p hx hn => by
  obtain ⟨q, h1, h2, h3⟩ := r.2 j x p hx hn
  exact ⟨q, h1, by rw [upd_ne (w q h3)]; exact h2, h3⟩⟩
theorem RowsL.nil : RowsL ok H [] [] := ⟨rfl, fun j x p hx _ => by cases hx⟩
theorem RowsL.snoc {q : Addr} {l : List Int} (r : RowsL ok H xs ls) (h : H q = some (.lst (l.map V.int))) (o : ok q) : RowsL ok H (xs ++ [.ref q]) (ls ++ [l]) := by
  refine ⟨by rw [List.length_append, List.length_append, r.1]; rfl, fun j x p hx hn => ?_⟩
  rcases app_get hx with ⟨c, h1⟩ | ⟨c, h1⟩
  · rw [List.getElem?_append_left (by rw [← r.1]; exact c)] at hn
    exact r.2 j x p h1 hn
  · rw [List.getElem?_append_right (by rw [← r.1]; exact c), ← r.1] at hn
    have hi := (List.getElem?_eq_some_iff.mp h1).1
    have hi' : j - xs.length < 1 := hi
    have e1 : j - xs.length = 0 := by omega
    rw [e1] at h1 hn
    cases Option.some.inj h1
    cases Option.some.inj hn
    exact ⟨q, rfl, h, o⟩
end
theorem ev_seq {i : Nat} {te : TE} {v : V} {rest : TS} {D : Ends} {σ : L2.St} {H : Hp} (h : Ev te σ H v) (q : ∀ H', Ex H H' → rest D (σ.set i (some v)) H') : tSeq (tAsg te (gName i)) rest D σ H := h H (Ex.refl _) _ q
/-- what gives a tuple of these, old or new -/
def EvTp (K : PySem.W.Frag) (te : TE) (σ : L2.St) (H : Hp) (xs : List V) : Prop := ∀ H0, Ex H H0 → ∀ Q : VK, (∀ p H1, Ex H0 H1 → SqT K H1 p xs → Q (.ref p) H1) → te σ H0 Q
theorem el_lcTp {σ : L2.St} {H : Hp} {xs : List V} {tl te : TE} {t : TT} {j : Nat} {vs : List Nat} (f : Nat → Bool) (v : Nat → V) (h : EvTp K tl σ H xs) (hz : xs.length ≤ 40000)
    (hw : ∀ x, wipe ((wipe σ vs).set j (some x)) vs = wipe σ vs) (ht : ∀ (i : Nat) (x : V) H1, Ex H H1 → xs[i]? = some x → EvT t ((wipe σ vs).set j (some x)) H1 (f i))
    (he : ∀ (i : Nat) (x : V) H1, Ex H H1 → xs[i]? = some x → f i = true → Ev te ((wipe σ vs).set j (some x)) H1 (v i)) : EvL (tLc (iTup K tl) (gName j) t te vs) σ H (given xs.length f v) := by
  intro H0 e Q q
  refine h H0 e _ fun a H1 e1 hx => ?_
  have e01 := e.trans e1
  refine ⟨a, rfl, ⟨xs, hx⟩, fun Dl hD => lc_tup (xs := xs) (Cw H1 f v Dl) ⟨hD, Ex.new hD, upd_same⟩ (fun i H' _ p => ex_t p.2.1 hx) ?_ ?_⟩
  · intro i x H' hi p
    have hlt := (List.getElem?_eq_some_iff.mp hi).1
    exact ⟨hw x, cw_turn p (by omega) (ht i x H1 e01 hi) (fun hf => he i x H1 e01 hi hf)⟩
  · exact fun H' p => q Dl H' (fresh_back e1 p.1) (e1.trans p.2.1) p.2.2
/-- what stands behind the place i of a tuple -/
theorem et_from {ta ti : TE} {σ : L2.St} {H : Hp} {b : Addr} {xs : List V} {i : Nat} (h : Ev ta σ H (.ref b)) (hi : Ev ti σ H (.int ((i + 1 : Nat) : Int))) (hx : SqT K H b xs) (hl : i < xs.length) : EvTp K (tSl (rSlA K) ta (tPart ti) tNoPart) σ H (xs.drop (i + 1)) := by
  intro H0 e Q q
  refine h H0 e _ fun H1 e1 => hi H1 (e.trans e1) _ fun H2 e2 => ⟨_, rfl, ?_⟩
  have e02 := (e.trans e1).trans e2
  refine ⟨b, xs, rfl, ex_t e02 hx, fun z => absurd z ?_, fun _ c hc => ?_⟩
  · rintro ⟨h1, _⟩
    rw [HT.sIx_nat] at h1
    omega
  · refine q c _ ((e1.trans e2).trans (Ex.new hc)) (SqT.of (by rw [upd_same, cut_from]))
theorem ev_many {tl tc : TE} {σ : L2.St} {H : Hp} {n : Int} {ns : List Int} (hl : Ev tl σ H (.int n)) (hc : EvL tc σ H (ns.map V.int)) (hn : n ≤ 16) (hb : ∀ z ∈ ns, 1 ≤ z ∧ z ≤ 17) : Ev (tCall (spLMany K) [] E0 (tCons tl (tCons tc tNil))) σ H (.int (manyI n ns 1)) := fun H0 e Q q =>
  hl H0 e _ fun H1 e1 => hc H1 (e.trans e1) _ fun p H2 hp e2 hx => ⟨n, p, ns, rfl, .inl (SqL.of hx), hn, hb, q H2 (e1.trans e2)⟩
theorem chr_lens : ∀ (cs : List (List Int)) (ks : List Int), ks.length ≤ 16 → ChR ks cs → ∀ z ∈ lens cs, 1 ≤ z ∧ z ≤ 17
  | [], _, _, _, z, hz => by cases hz
  | c :: cs, ks, hk, ⟨h1, h2, h3⟩, z, hz => by
    have hb : (behindI ks c 1).length ≤ 16 := Nat.le_trans behind_len hk
    rcases List.mem_cons.mp hz with h | h
    · rw [h]
      show 1 ≤ (c.length : Int) ∧ (c.length : Int) ≤ 17
      have := h1.length_le
      omega
    · exact chr_lens cs _ hb h3 z h
theorem lens_given {xs : List V} {rs : List (List Int)} (h : xs.length = rs.length) : given xs.length (fun _ => true) (fun i => V.int ((rs.getD i []).length : Int)) = (lens rs).map V.int := by
  rw [given_all, h]
  unfold lens
  rw [List.map_map]
  apply List.ext_getElem?
  intro i
  rw [List.getElem?_map, List.getElem?_map]
  by_cases c : i < rs.length
  · rw [List.getElem?_range c, List.getElem?_eq_getElem c, Option.map_some, List.getD_eq_getElem?_getD, List.getElem?_eq_getElem c]
    rfl
  · rw [List.getElem?_eq_none (by rw [List.length_range]; omega), List.getElem?_eq_none (by omega)]
    rfl
theorem RowsT.drop {H : Hp} {xs : List V} {rs : List (List Int)} {k : Nat} (r : RowsT H xs rs) : RowsT H (xs.drop k) (rs.drop k) := ⟨by rw [List.length_drop, List.length_drop, r.1], fun j x ns hx hn => by
  rw [List.getElem?_drop] at hx hn
  exact r.2 _ x ns hx hn⟩

def spLWalk : Sp := fun vs H Q _ => ∃ (a b : Addr) (ks : List Int) (xs : List V) (rs : List (List Int)), vs = [.ref a, .ref b] ∧ SqI' H a ks ∧ H b = some (.tup xs) ∧ RowsT H xs rs ∧ ChR ks rs ∧ ks.length ≤ 16 ∧ ks.Pairwise (· < ·) ∧
  ∀ p l t ys H', Ex H H' → H' p = some (.lst [.ref l, .ref t]) → H' l = some (.lst ys) → RowsL (fun _ => True) H' ys (leftsI ks rs) → H' t = some (.tup ((ansI ks rs).map V.int)) → Q (.ref p) H'
theorem ok_law_walk (T : TK K mg) : FnOk P w K mg base CX0 1 T.law_walk.a T.law_walk.fd ["wires", "rounds"] spLWalk := by
  refine T.law_walk.F.ok sc_law_walk (fun vs H Q E h => ?_) (fun cdv A outer s H vs Q E hr h => ?_)
  · obtain ⟨a, b, ks, xs, rs, rfl, _⟩ := h; rfl
  obtain ⟨a, b, ks, xs, rs, rfl, ha, hb, rw0, ch, hk16, so, q⟩ := h
  refine ⟨_, (pss_cons (ps_par3 (i := 2) (j := 3) (l := 4) (by rfl) sc_law_walk.nd rfl rfl rfl (by decide) (by decide) (by decide) rfl rfl rfl (pa_cons (pe_callTy (klist K) (by rfl) T.z_list (by decide +kernel) (pa_cons (pv 0) pa_nil)) (pa_cons (pe_lst pa_nil) (pa_cons (pe_lst pa_nil) pa_nil))) (by rfl))
    (pss_cons (ps_for PassesOwn.never rfl (pi_range1 rfl T.z_range (pa_cons (pe_callB (klen K) (by rfl) T.z_len (by decide +kernel) (pa_cons (pv 1) pa_nil)) pa_nil)) (pg_name (i := 5) sc_law_walk.nd rfl (Or.inr rfl)) (pss_cut (ps_if (pt_cmpR op_gt (pv 5) pe_int (nomark _)) (pss_cons (ps_expr (pe_bm PySem.F.plainAttrs_list PySem.F.slot_list_append PySem.F.type_list_append mt_append (pv 4) (pa_cons (pe_ix (kixl K) (pv 2) pe_int (fun _ _ => rfl)) pa_nil)))
    (pss_one (ps_set (i := 2) sc_law_walk.nd rfl (Or.inl rfl) (pe_slice (kslL K) (pv 2) (po_some pe_int) po_none)))) pss_nil)
    (pss_cons (ps_expr (pe_bm PySem.F.plainAttrs_list PySem.F.slot_list_append PySem.F.type_list_append mt_append (pv 3) (pa_cons (pv 2) pa_nil)))
    (pss_one (ps_setLc (i := 2) (own := [("wire", 6)]) (g := gName 6) (by rfl) sc_law_walk.nd rfl rfl (sw_true rfl rfl rfl (by decide +kernel)) (kpil K (pv 2)) (blkOk_by (own := [("wire", 6)]) (N := ["wires", "rounds", "left", "lefts", "answers", "at", "wire"]) (sc := defScope s_law_walk) (by decide +kernel)) (fun _ _ _ _ _ => (pg_name (i := 6) sc_law_walk.nd rfl (Or.inl rfl))) (fun _ _ _ _ _ => (pts_one (pt_cmpR (knotin K) (pv 6) (pe_ix (kixt K) (pv 1) (pv 5) (fun _ _ => rfl)) (by rfl)))) (fun _ _ _ _ _ => (pv 6)))))))
    (pss_one (ps_ret (pe_lst (pa_cons (pv 3) (pa_cons (pe_callTy (ktuple K) (by rfl) T.z_tuple (by decide +kernel) (pa_cons (pv 4) pa_nil)) pa_nil))))))), ?_⟩
  have xl := rw0.1
  obtain ⟨rl, cl⟩ := chr_len rs ks (so.imp fun h => Int.ne_of_lt h) ch
  refine ⟨_, rfl, a, _, rfl, ha.imp SqL.of SqT.of, fun L hL => ⟨Nat.zero_le _, fun D1 h1 => ⟨Nat.zero_le _, fun D2 h2 => ⟨_, _, _, rfl, ?_⟩⟩⟩⟩
  have f1 := Ex.new (o := .lst (ks.map V.int)) hL
  have f2 := Ex.new (o := .lst []) h1
  have f3 := Ex.new (o := .lst []) h2
  have f13 := (f1.trans f2).trans f3
  have uL := f3 _ _ (f2 _ _ (upd_same (H := H) (a := L) (o := .lst (ks.map V.int))))
  have u1 := f3 _ _ (upd_same (H := upd H L (.lst (ks.map V.int))) (a := D1) (o := .lst []))
  have u2 : (upd (upd (upd H L (.lst (ks.map V.int))) D1 (.lst [])) D2 (.lst [])) D2 = some (.lst []) := upd_same
  have D10 : H D1 = none := fresh_back f1 h1
  have D20 : H D2 = none := fresh_back (f1.trans f2) h2
  have n21 : D2 ≠ D1 := by rintro rfl; rw [upd_same] at h2; cases h2
  have nL1 : L ≠ D1 := by rintro rfl; rw [upd_same] at h1; cases h1
  have nL2 : L ≠ D2 := by rintro rfl; rw [f2 _ _ upd_same] at h2; cases h2
  generalize upd (upd (upd H L (.lst (ks.map V.int))) D1 (.lst [])) D2 (.lst []) = H2 at f13 uL u1 u2 ⊢
  clear f1 f2 f3
  have lb : ∀ {te : TE} {σ : L2.St} {G : Hp}, Ex H G → Ev te σ G (.ref b) → Ev (tCB (rLen K) (tCons te tNil)) σ G (.int (xs.length : Int)) := fun e h => ev_lenV (K := K) h (.inr (SqT.of (e _ _ hb)))
  refine q_forR1 (j := 5) (ea_cons (lb f13 (ev_var rfl)) ea_nil) ⟨by omega, by omega⟩ (fun i σ G => Ex H G ∧ ∃ (Lp : Addr) (M : List Int) (ys : List V) (ls : List (List Int)) (as : List Int) (v5 : Option V), σ = [some (.ref a), some (.ref b), some (.ref Lp), some (.ref D1), some (.ref D2), v5, none] ∧ G Lp = some (.lst (M.map V.int)) ∧ Lp ≠ D1 ∧ Lp ≠ D2 ∧ G D1 = some (.lst ys) ∧ G D2 = some (.lst (as.map V.int)) ∧ RowsL (fun a => a ≠ D1 ∧ a ≠ D2) G ys ls ∧ M.length ≤ 16 ∧ M.Pairwise (· < ·) ∧ ChR (restP (decide (0 < i)) M) (rs.drop i) ∧ leftsI ks rs = ls ++ leftsI (restP (decide (0 < i)) M) (rs.drop i) ∧ ansB false ks rs = as ++ ansB (decide (0 < i)) M (rs.drop i) ∧ ys.length ≤ i ∧ as.length ≤ i)
    (fun G e => ⟨f13.trans e, L, ks, [], [], [], _, rfl, e _ _ uL, nL1, nL2, e _ _ u1, e _ _ u2, RowsL.nil, hk16, so, ch, rfl, rfl, Nat.le_refl _, Nat.le_refl _⟩) ?_ ?_
  · rintro i σ G hi ⟨eg, Lp, M, ys, ls, as, v5, rfl, hLp, nl1, nl2, hD1, hD2, rL, m16, mso, chl, hls, has, yl, al⟩
    have hir : i < rs.length := by omega
    obtain ⟨p, hp1, hp2⟩ := (rw0.ex eg).2 i _ _ (List.getElem?_eq_getElem (show i < xs.length by omega)) (List.getElem?_eq_getElem hir)
    have hxi : xs[i]? = some (.ref p) := by rw [List.getElem?_eq_getElem (show i < xs.length by omega), hp1]
    have hp := rw0.2 i _ _ hxi (List.getElem?_eq_getElem hir)
    obtain ⟨p', hpe, hp0⟩ := hp
    cases hpe
    rw [List.drop_eq_getElem_cons hir] at chl hls has
    generalize hc : rs[i] = c at hp0 chl hls has
    obtain ⟨c1, c2, c3⟩ := chl
    have hls' : leftsI ks rs = ls ++ (restP (decide (0 < i)) M :: leftsI (behindI (restP (decide (0 < i)) M) c 1) (rs.drop (i + 1))) := hls
    have has' : ansB false ks rs = as ++ ((if decide (0 < i) = true then [M.getD 0 0] else []) ++ ansB true (behindI (restP (decide (0 < i)) M) c 0) (rs.drop (i + 1))) := has
    refine q_cut (M := fun σ' G' => Ex H G' ∧ ∃ Lp' as', σ' = [some (.ref a), some (.ref b), some (.ref Lp'), some (.ref D1), some (.ref D2), some (.int (i : Int)), none] ∧ G' Lp' = some (.lst ((restP (decide (0 < i)) M).map V.int)) ∧ Lp' ≠ D1 ∧ Lp' ≠ D2 ∧ G' D1 = some (.lst ys) ∧ G' D2 = some (.lst (as'.map V.int)) ∧ RowsL (fun a => a ≠ D1 ∧ a ≠ D2) G' ys ls ∧ as' = as ++ (if decide (0 < i) = true then [M.getD 0 0] else [])) ?_ ?_
    · refine s_when (b := decide (0 < i)) (et_is (et_test (ev_op (ev_var rfl) ev_c rv_I0)) (decide_eq_decide.mpr ⟨fun h => by omega, fun h => by omega⟩)) (fun ci G1 e1 => ?_) (fun ci G1 e1 => ?_)
      · have ml : 0 < M.length := by
          rw [ci] at c1
          have := c1.length_le
          have e : (restP true M).length = M.length - 1 := by show (M.drop 1).length = _; rw [List.length_drop]
          omega
        have hz : (M.map V.int)[0]? = some (.int (M.getD 0 0)) := by
          rw [List.getElem?_map, List.getD_eq_getElem?_getD, List.getElem?_eq_getElem ml]
          rfl
        refine q_app (l := D2) (e1 _ _ hD2) (ev_var rfl) (ev_op (ev_var rfl) ev_c (rv_ixL (SqL.of (e1 _ _ hLp)) (atI_nat hz))) (by rw [List.length_map]; omega) fun G2 e2 => ?_
        have eM := ((eg.trans e1).trans e2).mut (o := .lst (as.map V.int ++ [.int (M.getD 0 0)])) D20
        have hLm : (upd G2 D2 (.lst (as.map V.int ++ [.int (M.getD 0 0)]))) Lp = some (.lst (M.map V.int)) := by rw [upd_ne nl2]; exact e2 _ _ (e1 _ _ hLp)
        have hD1m : (upd G2 D2 (.lst (as.map V.int ++ [.int (M.getD 0 0)]))) D1 = some (.lst ys) := by rw [upd_ne n21.symm]; exact e2 _ _ (e1 _ _ hD1)
        have hD2m : (upd G2 D2 (.lst (as.map V.int ++ [.int (M.getD 0 0)]))) D2 = some (.lst ((as ++ [M.getD 0 0]).map V.int)) := by rw [upd_same, List.map_append]; rfl
        have rLm := ((rL.ex (e1.trans e2)).mut (D := D2) (zs := as.map V.int ++ [.int (M.getD 0 0)]) fun a ha => ha.2)
        generalize upd G2 D2 (.lst (as.map V.int ++ [.int (M.getD 0 0)])) = G3 at eM hLm hD1m hD2m rLm ⊢
        refine s_asgL (el_sl (ev_var rfl) (eo_some (i := ((1 : Nat) : Int)) ev_c) eo_none (SqL.of hLm)) fun Lq G4 hq e4 hqv => ⟨eM.trans e4, Lq, _, rfl, ?_, ne_of_none' hD1m hq, ne_of_none' hD2m hq, e4 _ _ hD1m, e4 _ _ hD2m, rLm.ex e4, by rw [ci]; rfl⟩
        rw [cut_from] at hqv
        rw [ci]
        show G4 Lq = some (.lst ((M.drop 1).map V.int))
        rw [List.map_drop]
        exact hqv
      · refine ⟨eg.trans e1, Lp, as, rfl, ?_, nl1, nl2, e1 _ _ hD1, e1 _ _ hD2, rL.ex e1, by rw [ci]; simp⟩
        rw [ci]
        exact e1 _ _ hLp
    rintro σ' G1 ⟨eg1, Lp', as', rfl, hL1, n1, n2, hD11, hD21, rL1, has1⟩
    have asl : as'.length ≤ i + 1 := by
      rw [has1, List.length_append]
      split
      · show as.length + 1 ≤ _; omega
      · show as.length + 0 ≤ _; omega
    rw [← List.append_assoc, ← has1] at has'
    have rso := restP_so (b := decide (0 < i)) mso
    have rln := Nat.le_trans (restP_len (b := decide (0 < i)) (L := M)) m16
    generalize restP (decide (0 < i)) M = left at c1 c3 hls' has' hL1 rso rln
    refine q_app (l := D1) hD11 (ev_var rfl) (ev_var rfl) (by omega) fun G2 e2 => ?_
    have eM := (eg1.trans e2).mut (o := .lst (ys ++ [.ref Lp'])) D10
    have hLm : (upd G2 D1 (.lst (ys ++ [.ref Lp']))) Lp' = some (.lst (left.map V.int)) := by rw [upd_ne n1]; exact e2 _ _ hL1
    have hD1m : (upd G2 D1 (.lst (ys ++ [.ref Lp']))) D1 = some (.lst (ys ++ [.ref Lp'])) := upd_same
    have hD2m : (upd G2 D1 (.lst (ys ++ [.ref Lp']))) D2 = some (.lst (as'.map V.int)) := by rw [upd_ne n21]; exact e2 _ _ hD21
    have rLm := (((rL1.ex e2).mut (D := D1) (zs := ys ++ [.ref Lp']) fun a ha => ha.1)).snoc hLm ⟨n1, n2⟩
    generalize upd G2 D1 (.lst (ys ++ [.ref Lp'])) = G3 at eM hLm hD1m hD2m rLm ⊢
    have hbG := eM _ _ hb
    have hpG := eM _ _ hp0
    refine s_asgL (el_flt (K := K) (a := Lp') (ls := left) (fun z => !decide (z ∈ c)) (ev_var rfl) (SqL.of hLm) (by omega) (fun _ => rfl) (fun _ => rfl) (fun z G5 e5 hz => et_is (et_test (ev_op (ev_var rfl) (ev_op (ev_var rfl) (ev_var rfl) (rv_ixT (SqT.of (e5 _ _ hbG)) (atI_nat hxi))) (rv_niT (SqT.of (e5 _ _ hpG)) rfl flat_ints))) (by rw [inV_ints]))) fun Lq G5 hq e5 hqv => ?_
    refine ⟨eM.trans e5, Lq, behindI left c 0, ys ++ [.ref Lp'], ls ++ [left], as', _, rfl, hqv, ne_of_none' hD1m hq, ne_of_none' hD2m hq, e5 _ _ hD1m, e5 _ _ hD2m, rLm.ex e5, Nat.le_trans behind_len rln, behind_so rso, ?_, ?_, ?_, by rw [List.length_append]; show ys.length + 1 ≤ _; omega, asl⟩
    · rw [decide_eq_true (Nat.succ_pos i)]; exact c3
    · rw [decide_eq_true (Nat.succ_pos i), hls', List.append_assoc]; rfl
    · rw [decide_eq_true (Nat.succ_pos i)]; exact has'
  · rintro σ G ⟨eg, Lp, M, ys, ls, as, v5, rfl, hLp, nl1, nl2, hD1, hD2, rL, m16, mso, chl, hls, has, yl, al⟩
    have dn : rs.drop ((xs.length : Int)).toNat = [] := List.drop_eq_nil_of_le (by omega)
    rw [dn] at hls has
    have hls' : leftsI ks rs = ls := by rw [hls]; exact List.append_nil _
    have has' : ansI ks rs = as := by rw [ansI_all, has]; exact List.append_nil _
    refine ⟨_, rfl, _, rfl, D2, _, rfl, .inl ⟨SqL.of hD2, fun t ht => ⟨two_le, fun p hp => ?_⟩⟩⟩
    have g1 := Ex.new (o := .tup (as.map V.int)) ht
    have g2 := Ex.new (o := .lst [.ref D1, .ref t]) hp
    refine q p D1 t ys _ (eg.trans (g1.trans g2)) upd_same (g2 _ _ (g1 _ _ hD1)) ?_ ?_
    · rw [hls']
      exact ⟨rL.1, fun j x l hx hl => by
        obtain ⟨u, e1, e2, _⟩ := (rL.ex (g1.trans g2)).2 j x l hx hl
        exact ⟨u, e1, e2, trivial⟩⟩
    · rw [has']
      exact g2 _ _ upd_same
theorem rank_lefts : ∀ (i : Nat) (rs : List (List Int)) (ks : List Int), i < rs.length → ks.Pairwise (· < ·) → ks.length ≤ 16 → (∀ z ∈ ks, 1 ≤ z) → ChR ks rs → ∃ l, (leftsI ks rs)[i]? = some l ∧ l.Pairwise (· < ·) ∧ l.length ≤ 16 ∧ (∀ z ∈ l, 1 ≤ z) ∧ ChR l (rs.drop i)
  | 0, [], _, h, _, _, _, _ => by cases h
  | 0, c :: cs, ks, _, so, hk, ps, ch => ⟨ks, rfl, so, hk, ps, ch⟩
  | i + 1, [], _, h, _, _, _, _ => by cases h
  | i + 1, c :: cs, ks, h, so, hk, ps, ch => rank_lefts i cs (behindI ks c 1) (Nat.lt_of_succ_lt_succ h) (behind_so so) (Nat.le_trans behind_len hk) (fun z hz => ps z (behind_sub z hz)) ch.2.2
/-- the rank's part of the rounds from i on -/
def rnkF (ks : List Int) (rs : List (List Int)) (i : Nat) : Int := match (leftsI ks rs)[i]? with
  | some l => rnkP l (rs.drop i)
  | none => 0
theorem rnkF_zero {ks : List Int} {rs : List (List Int)} : rnkF ks rs 0 = rnkP ks rs := by
  cases rs <;> rfl
theorem rnkF_end {ks : List Int} {rs : List (List Int)} : rnkF ks rs rs.length = 0 := by
  unfold rnkF
  rw [List.getElem?_eq_none (by rw [lefts_len]; exact Nat.le_refl _)]
theorem lefts_next : ∀ (i : Nat) (rs : List (List Int)) (ks l c : List Int), (leftsI ks rs)[i]? = some l → rs[i]? = some c → rnkP (behindI l c 1) (rs.drop (i + 1)) = rnkF ks rs (i + 1)
  | 0, c' :: cs, ks, l, c, h, hc => by
    obtain rfl := Option.some.inj h
    obtain rfl := Option.some.inj hc
    exact rnkF_zero.symm
  | i + 1, c' :: cs, ks, l, c, h, hc => lefts_next i cs (behindI ks c' 1) l c h hc
  | 0, [], _, _, _, h, _ => by cases h
  | i + 1, [], _, _, _, h, _ => by cases h
theorem rnkF_succ {i : Nat} {rs : List (List Int)} {ks l c : List Int} (h : (leftsI ks rs)[i]? = some l) (hc : rs[i]? = some c) : rnkF ks rs i = crk c l * manyI ((behindI l c 1).length : Int) (lens (rs.drop (i + 1))) 1 + rnkF ks rs (i + 1) := by
  rw [← lefts_next i rs ks l c h hc]
  unfold rnkF
  rw [h]
  obtain ⟨hi, e⟩ := List.getElem?_eq_some_iff.mp hc
  show rnkP l (rs.drop i) = _
  rw [List.drop_eq_getElem_cons hi, e]
  rfl
def spLRank (K : PySem.W.Frag) : Sp := fun vs H Q _ => ∃ (a b : Addr) (ks : List Int) (xs : List V) (rs : List (List Int)), vs = [.ref a, .ref b] ∧ SqI' H a ks ∧ H b = some (.tup xs) ∧ RowsT H xs rs ∧ ChR ks rs ∧ ks.length ≤ 16 ∧ ks.Pairwise (· < ·) ∧ (∀ z ∈ ks, 1 ≤ z) ∧ ∀ H', Ex H H' → Q (.int (rnkP ks rs)) H'
theorem ok_law_rank (T : TK K mg) : FnOk P w K mg base CX0 3 T.law_rank.a T.law_rank.fd ["wires", "rounds"] (spLRank K) := by
  refine T.law_rank.F.ok sc_law_rank (fun vs H Q E h => ?_) (fun cdv A outer s H vs Q E hr h => ?_)
  · obtain ⟨a, b, ks, xs, rs, rfl, _⟩ := h; rfl
  obtain ⟨a, b, ks, xs, rs, rfl, ha, hb, rw0, ch, hk16, so, pos, q⟩ := h
  refine ⟨_, (pss_cons (ps_par (i := 2) (j := 3) (by rfl) sc_law_rank.nd rfl rfl (by decide) rfl rfl (pa_cons (pe_ix (kixl K) (pe_call (ok_law_walk T) (hr.mono (by decide)) rfl T.law_walk.m T.law_walk.F.kp T.law_walk.b .nil pass0 (pa_cons (pv 0) (pa_cons (pv 1) pa_nil))) pe_int (fun _ _ => rfl)) (pa_cons pe_int pa_nil)) (by rfl))
    (pss_cons (ps_for PassesOwn.never rfl (pi_range1 rfl T.z_range (pa_cons (pe_callB (klen K) (by rfl) T.z_len (by decide +kernel) (pa_cons (pv 1) pa_nil)) pa_nil)) (pg_name (i := 4) sc_law_rank.nd rfl (Or.inl rfl)) (pss_cons (ps_set (i := 5) sc_law_rank.nd rfl (Or.inl rfl) (pe_call (ok_law_many T) (hr.mono (by decide)) rfl T.law_many.m T.law_many.F.kp T.law_many.b .nil pass0 (pa_cons (pe_op op_sub (pe_op op_sub (pe_callB (klen K) (by rfl) T.z_len (by decide +kernel) (pa_cons (pe_ix (kixl K) (pv 2) (pv 4) (fun _ _ => rfl)) pa_nil)) (pe_callB (klen K) (by rfl) T.z_len (by decide +kernel) (pa_cons (pe_ix (kixt K) (pv 1) (pv 4) (fun _ _ => rfl)) pa_nil))) pe_int) (pa_cons (pe_lc (own := [("one", 6)]) (g := gName 6) (by rfl) sc_law_rank.nd (kpit K (pe_slice (kslT K) (pv 1) (po_some (pe_op op_add (pv 4) pe_int)) po_none)) (blkOk_by (own := [("one", 6)]) (N := ["wires", "rounds", "lefts", "found", "at", "behind_v", "one"]) (sc := defScope s_law_rank) (by decide +kernel)) (fun _ _ _ _ _ => (pg_name (i := 6) sc_law_rank.nd rfl (Or.inl rfl))) (fun _ _ _ _ _ => pts_nil) (fun _ _ _ _ _ => (pe_callB (klen K) (by rfl) T.z_len (by decide +kernel) (pa_cons (pv 6) pa_nil)))) pa_nil))))
    (pss_one (ps_set (i := 3) sc_law_rank.nd rfl (Or.inl rfl) (pe_op op_add (pv 3) (pe_op op_mul (pe_call (ok_law_ahead T) (hr.mono (by decide)) rfl T.law_ahead.m T.law_ahead.F.kp T.law_ahead.b .nil pass0 (pa_cons (pe_ix (kixl K) (pv 2) (pv 4) (fun _ _ => rfl)) (pa_cons (pe_ix (kixt K) (pv 1) (pv 4) (fun _ _ => rfl)) pa_nil))) (pv 5)))))))
    (pss_one (ps_ret (pv 3))))), ?_⟩
  have xl := rw0.1
  obtain ⟨rl, cl⟩ := chr_len rs ks (so.imp fun h => Int.ne_of_lt h) ch
  refine ⟨_, rfl, _, rfl, a, b, ks, xs, rs, rfl, ha, hb, rw0, ch, hk16, so, fun p l t ys H1 e1 hp hl rL ht => ⟨_, _, _, _, rfl, rfl, SqL.of hp, rfl, ⟨_, _, rfl, ?_⟩⟩⟩
  have lb : ∀ {te : TE} {σ : L2.St} {G : Hp}, Ex H G → Ev te σ G (.ref b) → Ev (tCB (rLen K) (tCons te tNil)) σ G (.int (xs.length : Int)) := fun e h => ev_lenV (K := K) h (.inr (SqT.of (e _ _ hb)))
  refine q_forR1 (j := 4) (ea_cons (lb e1 (ev_var rfl)) ea_nil) ⟨by omega, by omega⟩ (fun i σ G => Ex H1 G ∧ ∃ (fd : Int) (v4 v5 : Option V), σ = [some (.ref a), some (.ref b), some (.ref l), some (.int fd), v4, v5, none] ∧ rnkP ks rs = fd + rnkF ks rs i)
    (fun G e => ⟨e, 0, _, _, rfl, by rw [rnkF_zero, Int.zero_add]⟩) ?_ ?_
  · rintro i σ G hi ⟨eg, fd, v4, v5, rfl, hm⟩
    have e0 := e1.trans eg
    have hri : i < rs.length := by omega
    have hri' : rs[i]? = some rs[i] := List.getElem?_eq_getElem hri
    have hxi : i < xs.length := by omega
    obtain ⟨left, hlf, lso, l16, lps, chl⟩ := rank_lefts i rs ks hri so hk16 pos ch
    obtain ⟨u, hu1, hu2⟩ := rw0.2 i _ _ (List.getElem?_eq_getElem hxi) hri'
    have hxu : xs[i]? = some (.ref u) := by rw [List.getElem?_eq_getElem hxi, hu1]
    rw [List.drop_eq_getElem_cons hri] at chl
    rw [rnkF_succ hlf hri'] at hm
    generalize rs[i] = c at hri' hu2 chl hm
    obtain ⟨c1, c2, c3⟩ := chl
    have hyi : i < ys.length := by rw [rL.1, lefts_len]; exact hri
    obtain ⟨v, hv1, hv2, _⟩ := rL.2 i _ _ (List.getElem?_eq_getElem hyi) hlf
    have hyv : ys[i]? = some (.ref v) := by rw [List.getElem?_eq_getElem hyi, hv1]
    have ixl : ∀ {σ : L2.St} {G' : Hp}, σ[2]? = some (some (.ref l)) → σ[4]? = some (some (.int (i : Int))) → Ex G G' → Ev (tOp (rIxL K) (tVar 2) (tVar 4)) σ G' (.ref v) := fun h2 h4 e => ev_op (ev_var h2) (ev_var h4) (rv_ixL (SqL.of (e _ _ (eg _ _ hl))) (atI_nat hyv))
    have ixr : ∀ {σ : L2.St} {G' : Hp}, σ[1]? = some (some (.ref b)) → σ[4]? = some (some (.int (i : Int))) → Ex G G' → Ev (tOp (rIxT K) (tVar 1) (tVar 4)) σ G' (.ref u) := fun h2 h4 e => ev_op (ev_var h2) (ev_var h4) (rv_ixT (SqT.of (e _ _ (e0 _ _ hb))) (atI_nat hxu))
    have ll : ∀ {te : TE} {σ : L2.St} {G' : Hp}, Ex G G' → Ev te σ G' (.ref v) → Ev (tCB (rLen K) (tCons te tNil)) σ G' (.int (left.length : Int)) := fun {te σ G'} e h => by
      have := ev_lenV (K := K) (xs := left.map V.int) h (.inl (SqL.of (e _ _ (eg _ _ hv2))))
      rw [List.length_map] at this
      exact this
    have lc : ∀ {te : TE} {σ : L2.St} {G' : Hp}, Ex G G' → Ev te σ G' (.ref u) → Ev (tCB (rLen K) (tCons te tNil)) σ G' (.int (c.length : Int)) := fun {te σ G'} e h => by
      have := ev_lenV (K := K) (xs := c.map V.int) h (.inr (SqT.of (e _ _ (e0 _ _ hu2))))
      rw [List.length_map] at this
      exact this
    have dl : ∀ (j : Nat) (x : V), (xs.drop (i + 1))[j]? = some x → ∃ d, (rs.drop (i + 1)).getD j [] = d ∧ ∃ q, x = .ref q ∧ H q = some (.tup (d.map V.int)) := fun j x hx => by
      have hj := (List.getElem?_eq_some_iff.mp hx).1
      have rd := rw0.drop (k := i + 1)
      have hd : (rs.drop (i + 1))[j]? = some ((rs.drop (i + 1))[j]'(by rw [← rd.1]; exact hj)) := List.getElem?_eq_getElem _
      exact ⟨_, by rw [List.getD_eq_getElem?_getD, hd]; rfl, rd.2 j x _ hx hd⟩
    have g1 := el_lcTp (K := K) (σ := [some (.ref a), some (.ref b), some (.ref l), some (.int fd), some (.int (i : Int)), v5, none]) (H := G) (tl := tSl (rSlA K) (tVar 1) (tPart (tOp (rI0 fun i j => V.int (i + j)) (tVar 4) (tC (V.int 1)))) tNoPart) (j := 6) (vs := [6]) (t := tYes) (te := tCB (rLen K) (tCons (tVar 6) tNil)) (fun _ => true) (fun j => .int (((rs.drop (i + 1)).getD j []).length : Int))
      (et_from (i := i) (ev_var rfl) (ev_op (ev_var rfl) ev_c rv_I0) (SqT.of (e0 _ _ hb)) hxi) (by rw [List.length_drop]; omega) (fun _ => rfl) (fun j x H4 _ _ H5 _ Q k => k H5 (Ex.refl _))
      (fun j x H4 e4 hx _ => by
        obtain ⟨d, hd1, p2, rfl, hp2'⟩ := dl j x hx
        rw [hd1]
        have := ev_lenV (K := K) (te := tVar 6) (σ := (wipe [some (.ref a), some (.ref b), some (.ref l), some (.int fd), some (.int (i : Int)), v5, none] [6]).set 6 (some (.ref p2))) (H := H4) (xs := d.map V.int) (ev_var rfl) (.inr (SqT.of ((e0.trans e4) _ _ hp2')))
        rw [List.length_map] at this
        exact this)
    rw [lens_given (by rw [List.length_drop, List.length_drop, xl])] at g1
    have bl16 : (behindI left c 1).length ≤ 16 := Nat.le_trans behind_len l16
    have lbz := chr_lens _ _ bl16 c3
    have cnt : Ev (tOp (rI0 fun i j => V.int (i - j)) (tOp (rI0 fun i j => V.int (i - j)) (tCB (rLen K) (tCons (tOp (rIxL K) (tVar 2) (tVar 4)) tNil)) (tCB (rLen K) (tCons (tOp (rIxT K) (tVar 1) (tVar 4)) tNil))) (tC (V.int 1))) [some (.ref a), some (.ref b), some (.ref l), some (.int fd), some (.int (i : Int)), v5, none] G (.int ((left.length : Int) - (c.length : Int) - 1)) :=
      ev_op (ev_op (ll (Ex.refl _) (ixl rfl rfl (Ex.refl _))) (lc (Ex.refl _) (ixr rfl rfl (Ex.refl _))) rv_I0) ev_c rv_I0
    have mv := ev_many (K := K) (n := (left.length : Int) - (c.length : Int) - 1) cnt g1 (by omega) lbz
    have bl := behind_length (g := 1) c1 (lso.imp fun h => Int.ne_of_lt h)
    rw [nat1] at bl
    rw [many_sub (fun z hz => (lbz z hz).1), ← bl] at mv
    have ml := many_le (g := 1) (by omega) (lens (rs.drop (i + 1))) (behindI left c 1).length bl16 (fun z hz => (lbz z hz).1)
    have mt := (fc_mono bl16 (Nat.le_refl _)).2
    rw [fc_top] at mt
    refine q_asg mv fun G2 e2 => ?_
    generalize manyI ((behindI left c 1).length : Int) (lens (rs.drop (i + 1))) 1 = mm at ml hm
    have hah : Ev (tCall (spAhead K) [] E0 (tCons (tOp (rIxL K) (tVar 2) (tVar 4)) (tCons (tOp (rIxT K) (tVar 1) (tVar 4)) tNil))) [some (.ref a), some (.ref b), some (.ref l), some (.int fd), some (.int (i : Int)), some (.int mm), none] G2 (.int (crk c left)) := fun H0 e Q' q' =>
      ixl rfl rfl (e2.trans e) H0 (Ex.refl _) _ fun H3 e3 => ixr rfl rfl ((e2.trans e).trans e3) H3 (Ex.refl _) _ fun H4 e4 =>
        ⟨v, u, left, c, rfl, SqL.of ((((e2.trans e).trans e3).trans e4) _ _ (eg _ _ hv2)), SqT.of ((((e2.trans e).trans e3).trans e4) _ _ (e0 _ _ hu2)), l16, lso, lps, c1, fun H5 e5 => q' H5 ((e3.trans e4).trans e5)⟩
    refine s_asg (ev_op (r := rI0 fun i j => V.int (i + j)) (ev_var rfl) (ev_op (r := rI CMul fun i j => V.int (i * j)) hah (ev_var rfl) (rv_val fun H4 e4 Q k => ⟨_, _, rfl, rfl, .inr ⟨by omega, by omega⟩, k⟩)) rv_I0) fun G3 e3 => ⟨(eg.trans e2).trans e3, fd + crk c left * mm, _, _, rfl, ?_⟩
    rw [hm, Int.add_assoc]
  · rintro σ G ⟨eg, fd, v4, v5, rfl, hm⟩
    have en : ((xs.length : Int)).toNat = rs.length := by omega
    rw [en, rnkF_end, Int.add_zero] at hm
    exact s_ret (ev_var rfl) fun G1 e => by
      rw [← hm]
      exact q G1 ((e1.trans eg).trans e)
end
end L2.U


set_option Elab.async false
set_option linter.all false
set_option maxRecDepth 100000
set_option maxHeartbeats 4000000
namespace L2.U
open PySem PySem.Spec PyProof.Rows Evl

section
variable {P : Program} {w : World} {K : PySem.W.Frag} {mg : Str → Option Value} {base : Heap}
/-! ### data as it lies -/
def SqI (H : Hp) (a : Addr) (ns : List Int) : Prop := H a = some (.lst (ns.map V.int)) ∨ H a = some (.tup (ns.map V.int))
theorem SqI.ex {H H' : Hp} {a : Addr} {ns : List Int} (h : SqI H a ns) (e : Ex H H') : SqI H' a ns := h.imp (e _ _) (e _ _)
theorem SqI.sq {H : Hp} {a : Addr} {ns : List Int} (h : SqI H a ns) : SqL K H a (ns.map V.int) ∨ SqT K H a (ns.map V.int) := h.imp SqL.of SqT.of
theorem SqI.but {H H' : Hp} {a b : Addr} {ns : List Int} (h : SqI H a ns) (k : But b H H') (n : a ≠ b) : SqI H' a ns := h.imp (k _ _ n) (k _ _ n)
theorem SqI.rd {H : Hp} {a : Addr} {ns : List Int} {n : Nat} (h : SqI H a ns) (l : ns.length ≤ 900) : ∃ d, SeqD d ns ∧ Rd K (fun _ => True) H (n + 1) (.ref a) d := by
  have r := rdl_ints (K := K) (ok := fun _ => True) (H := H) (n := n) ns
  rcases h with h | h
  · exact ⟨_, .inl rfl, .lst h trivial r.1 (by rw [List.length_map]; omega) r.2⟩
  · exact ⟨_, .inr rfl, .tup (SqT.of h) trivial r.1 (by rw [List.length_map]; omega) r.2⟩
theorem rd_row {H : Hp} {p : Addr} {c : List Int} {n : Nat} (h : H p = some (.tup (c.map V.int))) (l : c.length ≤ 900) : Rd K (fun _ => True) H (n + 1) (.ref p) (rowD c) := by
  have r := rdl_ints (K := K) (ok := fun _ => True) (H := H) (n := n) c
  exact .tup (SqT.of h) trivial r.1 (by rw [List.length_map]; omega) r.2
theorem rd_rows {H : Hp} {p : Addr} {xs : List V} {rs : List (List Int)} {n : Nat} (h : H p = some (.tup xs)) (r : RowsT H xs rs) (l : rs.length ≤ 900) (lc : ∀ c ∈ rs, c.length ≤ 900) : Rd K (fun _ => True) H (n + 2) (.ref p) (rowsD rs) := by
  refine .tup (SqT.of h) trivial (by rw [List.length_map]; exact r.1) (by rw [r.1]; exact l) fun i x d hx hd => ?_
  rw [List.getElem?_map, Option.map_eq_some_iff] at hd
  obtain ⟨c, hc, rfl⟩ := hd
  obtain ⟨q, rfl, hq⟩ := r.2 i x c hx hc
  exact rd_row hq (lc c (List.mem_of_getElem? hc))
theorem rowsT_but {H H' : Hp} {b : Addr} {ys xs : List V} {rs : List (List Int)} (r : RowsT H xs rs) (hb : H b = some (.lst ys)) (k : But b H H') : RowsT H' xs rs := ⟨r.1, fun j x ns hx hn => by
  obtain ⟨p, h1, h2⟩ := r.2 j x ns hx hn
  exact ⟨p, h1, k _ _ (ne_of h2 hb (by intro z; cases z)) h2⟩⟩
/-- a question and what it holds; its lists lie where ok says -/
inductive AskQ (ok : Addr → Prop) (H : Hp) : Int → List V → Prop
  | many {c : Nat} {a : Addr} {ns : List Int} (hc : c ≤ 16) (h : SqI H a ns) (o : ok a) (s : SOK ns) : AskQ ok H 0 [.int (c : Int), .ref a]
  | rank {kind : Int} (hk : kind = 2 ∨ kind = 3) {r a : Addr} {ys : List V} {rs : List (List Int)} {ks : List Int} (hr : H r = some (.tup ys)) (rw_ : RowsT H ys rs) (h : SqI H a ks) (o : ok a) (k : KOK ks) (ch : ChR ks rs) : AskQ ok H kind [.ref r, .ref a]
  | rounds {i : Int} {a b : Addr} {ks ns : List Int} (h : SqI H a ks) (o : ok a) (k : KOK ks) (h2 : SqI H b ns) (o2 : ok b) (s : SOK ns) : AskQ ok H 1 [.int i, .ref a, .ref b]
theorem AskQ.ex {ok : Addr → Prop} {H H' : Hp} {kind : Int} {xs : List V} (q : AskQ ok H kind xs) (e : Ex H H') : AskQ ok H' kind xs := by
  cases q with
  | many hc h o s => exact .many hc (h.ex e) o s
  | rank hk hr rw_ h o k ch => exact .rank hk (e _ _ hr) (rw_.ex e) (h.ex e) o k ch
  | rounds h o k h2 o2 s => exact .rounds (h.ex e) o k (h2.ex e) o2 s
theorem AskQ.of {ok ok' : Addr → Prop} {H : Hp} {kind : Int} {xs : List V} (q : AskQ ok H kind xs) (w : ∀ a, ok a → ok' a) : AskQ ok' H kind xs := by
  cases q with
  | many hc h o s => exact .many hc h (w _ o) s
  | rank hk hr rw_ h o k ch => exact .rank hk hr rw_ h (w _ o) k ch
  | rounds h o k h2 o2 s => exact .rounds h (w _ o) k h2 (w _ o2) s
theorem SqI.ne {H : Hp} {a A : Addr} {ns : List Int} (h : SqI H a ns) (hA : H A = none) : a ≠ A := by
  rintro rfl
  rcases h with h | h <;> (rw [hA] at h; cases h)
theorem AskQ.new {ok : Addr → Prop} {H : Hp} {A : Addr} {kind : Int} {xs : List V} (q : AskQ ok H kind xs) (hA : H A = none) : AskQ (fun a => ok a ∧ a ≠ A) H kind xs := by
  cases q with
  | many hc h o s => exact .many hc h ⟨o, h.ne hA⟩ s
  | rank hk hr rw_ h o k ch => exact .rank hk hr rw_ h ⟨o, h.ne hA⟩ k ch
  | rounds h o k h2 o2 s => exact .rounds h ⟨o, h.ne hA⟩ k h2 ⟨o2, h2.ne hA⟩ s
theorem AskQ.but {ok : Addr → Prop} {H H' : Hp} {b : Addr} {ys : List V} {kind : Int} {xs : List V} (q : AskQ ok H kind xs) (hb : H b = some (.lst ys)) (k : But b H H') (w : ∀ a, ok a → a ≠ b) : AskQ ok H' kind xs := by
  cases q with
  | many hc h o s => exact .many hc (h.but k (w _ o)) o s
  | rank hk hr rw_ h o kk ch => exact .rank hk (k _ _ (ne_of hr hb (by intro z; cases z)) hr) (rowsT_but rw_ hb k) (h.but k (w _ o)) o kk ch
  | rounds h o kk h2 o2 s => exact .rounds (h.but k (w _ o)) o kk (h2.but k (w _ o2)) o2 s
def AskAt (ok : Addr → Prop) (H : Hp) (t : Addr) : Prop := ∃ (kind : Int) (vt : Addr) (xs : List V), H t = some (.tup [.int kind, .ref vt]) ∧ H vt = some (.tup xs) ∧ AskQ ok H kind xs
theorem AskAt.ex {ok : Addr → Prop} {H H' : Hp} {t : Addr} (a : AskAt ok H t) (e : Ex H H') : AskAt ok H' t := by
  obtain ⟨kind, vt, xs, h1, h2, h3⟩ := a
  exact ⟨kind, vt, xs, e _ _ h1, e _ _ h2, h3.ex e⟩
theorem AskAt.of {ok ok' : Addr → Prop} {H : Hp} {t : Addr} (a : AskAt ok H t) (w : ∀ a, ok a → ok' a) : AskAt ok' H t := by
  obtain ⟨kind, vt, xs, h1, h2, h3⟩ := a
  exact ⟨kind, vt, xs, h1, h2, h3.of w⟩
theorem AskAt.new {ok : Addr → Prop} {H : Hp} {A t : Addr} (a : AskAt ok H t) (hA : H A = none) : AskAt (fun a => ok a ∧ a ≠ A) H t := by
  obtain ⟨kind, vt, xs, h1, h2, h3⟩ := a
  exact ⟨kind, vt, xs, h1, h2, h3.new hA⟩
theorem AskAt.but {ok : Addr → Prop} {H H' : Hp} {t b : Addr} {ys : List V} (a : AskAt ok H t) (hb : H b = some (.lst ys)) (k : But b H H') (w : ∀ a, ok a → a ≠ b) : AskAt ok H' t := by
  obtain ⟨kind, vt, xs, h1, h2, h3⟩ := a
  exact ⟨kind, vt, xs, k _ _ (ne_of h1 hb (by intro z; cases z)) h1, k _ _ (ne_of h2 hb (by intro z; cases z)) h2, h3.but hb k w⟩
theorem el_lcR1n {σ : L2.St} {H : Hp} {ta : TA} {t : TT} {te : TE} {j : Nat} {vs : List Nat} {n : Int} (f : Nat → Bool) (v : Nat → V) (h : EvA ta σ H [.int n]) (hn : -40000 ≤ n ∧ n ≤ 40000) (hw : ∀ x, wipe ((wipe σ vs).set j (some x)) vs = wipe σ vs)
    (ht : ∀ (i : Nat) H1, Ex H H1 → (i : Int) < n → EvT t ((wipe σ vs).set j (some (.int (i : Int)))) H1 (f i)) (he : ∀ (i : Nat) H1, Ex H H1 → (i : Int) < n → f i = true → Ev te ((wipe σ vs).set j (some (.int (i : Int)))) H1 (v i)) :
    EvL (tLc (iRng1 ta) (gName j) t te vs) σ H (given n.toNat f v) := fun H0 e Q q => h H0 e _ fun H1 e1 => ⟨n, rfl, by omega, by omega, fun Dl hD =>
  lc_range (lo := 0) (n := n.toNat) (Cw H1 f v Dl) ⟨hD, Ex.new hD, upd_same⟩ (fun i H' hi p => by
    have e0 : (0 : Int) + (i : Int) = (i : Int) := Int.zero_add _
    show wipe ((wipe σ vs).set j (some (.int ((0 : Int) + (i : Int))))) vs = wipe σ vs ∧ t ((wipe σ vs).set j (some (.int ((0 : Int) + (i : Int))))) H' fun b H3 => if b = true then te ((wipe σ vs).set j (some (.int ((0 : Int) + (i : Int))))) H3 fun y H4 => ∃ acc, H4 Dl = some (.lst acc) ∧ acc.length < sizeLine ∧ Cw H1 f v Dl (i + 1) (upd H4 Dl (.lst (acc ++ [y]))) else Cw H1 f v Dl (i + 1) H3
    rw [e0]
    exact ⟨hw _, cw_turn p (by omega) (ht i H1 (e.trans e1) (by omega)) (fun hf => he i H1 (e.trans e1) (by omega) hf)⟩) (fun H' p => q Dl H' (fresh_back e1 p.1) (e1.trans p.2.1) p.2.2)⟩
def spLKinds (K : PySem.W.Frag) : Sp := fun vs H Q _ => ∃ x d n ok, vs = [x] ∧ RdA K ok H n x d ∧ n ≤ 20 ∧ ∀ H', Ex H H' → Q (.bl (kindsD d)) H'

theorem ev_isi {te : TE} {σ : L2.St} {H : Hp} {x : V} {t u : String} {b : Bool} (h : Ev te σ H x) (ty : ∀ H', Ex H H' → TyX K H' x (.type t)) (hk : kitB t u = some b) : Ev (tCB (rIsi K) (tCons te (tCons (tC (.ty u)) tNil))) σ H (.bl b) :=
  fun H1 e Q q => h H1 e _ fun H2 e2 => isi_at (ty H2 (e.trans e2)) hk (q H2 e2)
theorem ne_none {ta : TE} {σ : L2.St} {H : Hp} {xs : List V} (hx : xs = []) (h : EvL ta σ H xs) : Ev (tOp (rNeD K) ta (tLst tNil)) σ H (.bl false) := by
  subst hx
  exact ne_empty_b (ok := fun _ => True) (ds := []) (n := 1) h (fun H2 _ => ⟨rfl, fun i x d hx _ => by cases hx⟩) (by decide)
theorem rows_get {H : Hp} {xs : List V} {rs : List (List Int)} (r : RowsT H xs rs) {i : Nat} (h : i < rs.length) : ∃ p, xs[i]? = some (.ref p) ∧ H p = some (.tup ((rs[i]).map V.int)) := by
  have hx : xs[i]? = some (xs[i]'(by rw [r.1]; exact h)) := List.getElem?_eq_getElem _
  obtain ⟨p, h1, h2⟩ := r.2 i _ _ hx (List.getElem?_eq_getElem h)
  exact ⟨p, by rw [hx, h1], h2⟩
theorem rv_ix {H : Hp} {p : Addr} {xs : List V} {i : Int} {v : V} (h : SqL K H p xs ∨ SqT K H p xs) (ha : atI xs i = some v) : RV (rIx K) (.ref p) (.int i) H v := fun H1 e _ q => rix (h.imp (ex_l e) (ex_t e)) ha (q H1 (Ex.refl H1))
theorem lens_at {rs : List (List Int)} {i : Nat} (h : i < rs.length) : ((lens rs).map V.int)[i]? = some (.int ((rs[i]).length : Int)) := by
  unfold lens
  rw [List.getElem?_map, List.getElem?_map, List.getElem?_eq_getElem h]
  rfl
theorem restP_t {L : List Int} : restP true L = L.drop 1 := rfl
theorem q_rest {σ : L2.St} {G : Hp} {Lp : Addr} {L : List Int} {i : Nat} {s j : Nat} {D : Ends} (hj : σ[j]? = some (some (.int (i : Int)))) (hs : σ[s]? = some (some (.ref Lp))) (hset : σ.set s (some (.ref Lp)) = σ) (hL : G Lp = some (.lst (L.map V.int)))
    (k : ∀ Lp' G', Ex G G' → G' Lp' = some (.lst ((restP (decide (0 < i)) L).map V.int)) → D.nx (σ.set s (some (.ref Lp'))) G') : tIfS (tTest (tOp (rI0 fun i j => .bl (decide (j < i))) (tVar j) (tC (.int 0)))) (tAsg (tSl (rSlL K) (tVar s) (tPart (tC (.int 1))) tNoPart) (gName s)) tNext D σ G := by
  refine s_when (b := decide (0 < i)) (et_is (et_test (ev_op (ev_var hj) ev_c rv_I0)) (decide_eq_decide.mpr ⟨fun h => by omega, fun h => by omega⟩)) (fun c G1 e1 => ?_) (fun c G1 e1 => ?_)
  · refine s_asgL (el_sl (ev_var hs) (eo_some (i := ((1 : Nat) : Int)) ev_c) eo_none (SqL.of (e1 _ _ hL))) fun Lp' G2 _ e2 hp => k Lp' G2 (e1.trans e2) ?_
    rw [cut_from] at hp
    rw [c, restP_t, List.map_drop]
    exact hp
  · have := k Lp G1 e1 (by rw [c]; exact e1 _ _ hL)
    rw [hset] at this
    exact this
def spLAre (K : PySem.W.Frag) : Sp := fun vs H Q _ => ∃ (t a b : Addr) (xs : List V) (rs : List (List Int)) (ks : List Int), vs = [.ref t, .ref a, .ref b] ∧ H t = some (.tup xs) ∧ RowsT H xs rs ∧ SqI H a ks ∧ SqI H b (lens rs) ∧ KOK ks ∧ ChR ks rs ∧ ∀ H', Ex H H' → Q (.bl true) H'
theorem ok_law_are_raised (T : TK K mg) : FnOk P w K mg base CX0 2 T.law_are_raised.a T.law_are_raised.fd ["told", "wires", "sizes"] (spLAre K) := by
  refine T.law_are_raised.F.ok sc_law_are_raised (fun vs H Q E h => ?_) (fun cdv A outer s H vs Q E hr h => ?_)
  · obtain ⟨t, a, b, xs, rs, ks, rfl, _⟩ := h; rfl
  obtain ⟨t, a, b, xs, rs, ks, rfl, ht, rw0, ha, hb, kk, ch, q⟩ := h
  refine ⟨_, (pss_cons (ps_if (PW.pt (pw_or (pt_not (pt_val (pe_callB (kisi K) (by rfl) T.z_isinstance (by decide +kernel) (pa_cons (pv 0) (pa_cons (pe_bltn (v := .ty "tuple") rfl T.z_tuple (by decide +kernel) rfl) pa_nil))))) (pw_or1 (pt_cmpR op_ne (pe_callB (klen K) (by rfl) T.z_len (by decide +kernel) (pa_cons (pv 0) pa_nil)) (pe_callB (klen K) (by rfl) T.z_len (by decide +kernel) (pa_cons (pv 2) pa_nil)) (nomark _))))) (pss_one (ps_ret pe_bl)) pss_nil)
    (pss_cons (ps_set (i := 3) sc_law_are_raised.nd rfl (Or.inr rfl) (pe_callTy (klist K) (by rfl) T.z_list (by decide +kernel) (pa_cons (pv 1) pa_nil)))
    (pss_cons (ps_for PassesOwn.never rfl (pi_range1 rfl T.z_range (pa_cons (pe_callB (klen K) (by rfl) T.z_len (by decide +kernel) (pa_cons (pv 2) pa_nil)) pa_nil)) (pg_name (i := 4) sc_law_are_raised.nd rfl (Or.inl rfl)) (pss_cons (ps_set (i := 5) sc_law_are_raised.nd rfl (Or.inr rfl) (pe_ix (kixt K) (pv 0) (pv 4) (fun _ _ => rfl)))
    (pss_cut (ps_if (pt_cmpR op_gt (pv 4) pe_int (nomark _)) (pss_one (ps_set (i := 3) sc_law_are_raised.nd rfl (Or.inr rfl) (pe_slice (kslL K) (pv 3) (po_some pe_int) po_none))) pss_nil)
    (pss_cons (ps_if (PW.pt (pw_or (pt_not (pt_val (pe_callB (kisi K) (by rfl) T.z_isinstance (by decide +kernel) (pa_cons (pv 5) (pa_cons (pe_bltn (v := .ty "tuple") rfl T.z_tuple (by decide +kernel) rfl) pa_nil))))) (pw_or1 (pt_cmpR op_ne (pe_callB (klen K) (by rfl) T.z_len (by decide +kernel) (pa_cons (pv 5) pa_nil)) (pe_ix (kix K) (pv 2) (pv 4) (fun _ _ => rfl)) (nomark _))))) (pss_one (ps_ret pe_bl)) pss_nil)
    (pss_cons (ps_if (pt_cmpR (kneD K hr.units) (pe_lc (own := [("wire", 6)]) (g := gName 6) (by rfl) sc_law_are_raised.nd (kpit K (pv 5)) (blkOk_by (own := [("wire", 6)]) (N := ["told", "wires", "sizes", "left", "at", "one", "wire", "k"]) (sc := defScope s_law_are_raised) (by decide +kernel)) (fun _ _ _ _ _ => (pg_name (i := 6) sc_law_are_raised.nd rfl (Or.inl rfl))) (fun _ _ _ _ _ => (pts_one (PW.pt (pw_or (pt_not (pt_val (pe_callB (kisi K) (by rfl) T.z_isinstance (by decide +kernel) (pa_cons (pv 6) (pa_cons (pe_bltn (v := .ty "int") rfl T.z_int (by decide +kernel) rfl) pa_nil))))) (pw_or (pt_val (pe_callB (kisi K) (by rfl) T.z_isinstance (by decide +kernel) (pa_cons (pv 6) (pa_cons (pe_bltn (v := .ty "bool") rfl T.z_bool (by decide +kernel) rfl) pa_nil)))) (pw_or1 (pt_cmpR (knotin K) (pv 6) (pv 3) (by rfl)))))))) (fun _ _ _ _ _ => (pv 6))) (pe_lst pa_nil) (nomark _)) (pss_one (ps_ret pe_bl)) pss_nil)
    (pss_cons (ps_if (pt_cmpR (kneD K hr.units) (pe_lc (own := [("k", 7)]) (g := gName 7) (by rfl) sc_law_are_raised.nd (pi_range1 rfl T.z_range (pa_cons (pe_op op_sub (pe_callB (klen K) (by rfl) T.z_len (by decide +kernel) (pa_cons (pv 5) pa_nil)) pe_int) pa_nil)) (blkOk_by (own := [("k", 7)]) (N := ["told", "wires", "sizes", "left", "at", "one", "wire", "k"]) (sc := defScope s_law_are_raised) (by decide +kernel)) (fun _ _ _ _ _ => (pg_name (i := 7) sc_law_are_raised.nd rfl (Or.inl rfl))) (fun _ _ _ _ _ => (pts_one (pt_cmpR op_ge (pe_ix (kixt K) (pv 5) (pv 7) (fun _ _ => rfl)) (pe_ix (kixt K) (pv 5) (pe_op op_add (pv 7) pe_int) (fun _ _ => rfl)) (nomark _)))) (fun _ _ _ _ _ => (pv 7))) (pe_lst pa_nil) (nomark _)) (pss_one (ps_ret pe_bl)) pss_nil)
    (pss_one (ps_set (i := 3) sc_law_are_raised.nd rfl (Or.inr rfl) (pe_lc (own := [("wire", 6)]) (g := gName 6) (by rfl) sc_law_are_raised.nd (kpil K (pv 3)) (blkOk_by (own := [("wire", 6)]) (N := ["told", "wires", "sizes", "left", "at", "one", "wire", "k"]) (sc := defScope s_law_are_raised) (by decide +kernel)) (fun _ _ _ _ _ => (pg_name (i := 6) sc_law_are_raised.nd rfl (Or.inl rfl))) (fun _ _ _ _ _ => (pts_one (pt_cmpR (knotin K) (pv 6) (pv 5) (by rfl)))) (fun _ _ _ _ _ => (pv 6)))))))))))
    (pss_one (ps_ret pe_bl))))), ?_⟩
  obtain ⟨rl, cl⟩ := chr_len rs ks kk.nd ch
  have k16 := kk.l
  have xl := rw0.1
  have ll : (lens rs).length = rs.length := List.length_map ..
  have n2 : ∀ {te : TE} {σ : L2.St} {H' : Hp}, Ex H H' → Ev te σ H' (.ref b) → Ev (tCB (rLen K) (tCons te tNil)) σ H' (.int (rs.length : Int)) := fun {te σ H'} e h => by
    have := ev_lenV (K := K) h ((hb.ex e).sq)
    rw [List.length_map, ll] at this
    exact this
  refine q_when (b := false) (et_is (et_or (a := false) (et_is (et_not (et_B (ev_isi (ev_var rfl) (fun H' e => tyT (SqT.of (e _ _ ht))) (b := true) (by decide +kernel)))) rfl) (fun _ => et_test (ev_op (ev_lenV (K := K) (xs := xs) (ev_var rfl) (.inr (SqT.of ht))) (n2 (Ex.refl _) (ev_var rfl)) (rv_ne rfl)))) (by rw [xl]; simp)) (fun c => nomatch c) (fun _ H1 e1 => ?_)
  refine ⟨_, rfl, a, _, rfl, (ha.ex e1).sq, fun U hU => ?_⟩
  have e2 := Ex.new (o := .lst (ks.map V.int)) hU
  have hU2 : (upd H1 U (.lst (ks.map V.int))) U = some (.lst (ks.map V.int)) := upd_same
  generalize upd H1 U (.lst (ks.map V.int)) = H2 at e2 hU2 ⊢
  have e12 := e1.trans e2
  refine q_forR1 (ea_cons (n2 e12 (ev_var rfl)) ea_nil) ⟨by omega, by omega⟩ (fun i σ G => Ex H G ∧ ∃ (L : List Int) (Lp : Addr) (v4 v5 : Option V), σ = [some (.ref t), some (.ref a), some (.ref b), some (.ref Lp), v4, v5, none, none] ∧ G Lp = some (.lst (L.map V.int)) ∧ L.length ≤ 16 ∧ L.Pairwise (· < ·) ∧ ChR (restP (decide (0 < i)) L) (rs.drop i))
    (fun G eg => ⟨e12.trans eg, ks, U, _, _, rfl, eg _ _ hU2, k16, kk.so, ch⟩) ?_ ?_
  · rintro i σ G hi ⟨eg, L, Lp, v4, v5, rfl, hUg, hul, so0, chl⟩
    have hir : i < rs.length := by omega
    obtain ⟨p, hxi, hp⟩ := rows_get (rw0.ex eg) hir
    rw [List.drop_eq_getElem_cons hir] at chl
    generalize hc : rs[i] = c at hp chl
    obtain ⟨c1, c2, c3⟩ := chl
    have so := restP_so (b := decide (0 < i)) so0
    have rl16 := Nat.le_trans (restP_len (b := decide (0 < i)) (L := L)) hul
    have cso := so.sublist c1
    refine q_asg (ev_op (ev_var rfl) (ev_var rfl) (rv_ixT (SqT.of (eg _ _ ht)) (atI_nat hxi))) fun G1 eg1 => ?_
    have e01 := eg.trans eg1
    have hp1 := eg1 _ _ hp
    have hla := lens_at hir
    rw [hc] at hla
    refine q_cut (M := fun σ' G' => Ex G1 G' ∧ ∃ Lp', σ' = [some (.ref t), some (.ref a), some (.ref b), some (.ref Lp'), some (.int (i : Int)), some (.ref p), none, none] ∧ G' Lp' = some (.lst ((restP (decide (0 < i)) L).map V.int))) (q_rest (K := K) (s := 3) (j := 4) rfl rfl rfl (eg1 _ _ hUg) fun Lp' G' e h => ⟨e, Lp', rfl, h⟩) ?_
    rintro σ' G1' ⟨eg1', Lp', rfl, hL'⟩
    generalize restP (decide (0 < i)) L = ls at c1 c3 so rl16 hL'
    have e01 := e01.trans eg1'
    have hp1 := eg1' _ _ hp1
    have cl1 : ∀ {te : TE} {σ : L2.St} {H' : Hp}, Ex G1' H' → Ev te σ H' (.ref p) → Ev (tCB (rLen K) (tCons te tNil)) σ H' (.int (c.length : Int)) := fun {te σ H'} e h => by
      have := ev_lenV (K := K) (xs := c.map V.int) h (.inr (SqT.of (e _ _ hp1)))
      rw [List.length_map] at this
      exact this
    refine q_when (b := false) (et_is (et_or (a := false) (et_is (et_not (et_B (ev_isi (ev_var rfl) (fun H' e => tyT (SqT.of (e _ _ hp1))) (b := true) (by decide +kernel)))) rfl) (fun _ => et_test (ev_op (cl1 (Ex.refl _) (ev_var rfl)) (ev_op (ev_var rfl) (ev_var rfl) (rv_ix ((hb.ex e01).sq) (atI_nat hla))) (rv_ne rfl)))) (by simp)) (fun c => nomatch c) (fun _ G2 eg2 => ?_)
    have e02 := e01.trans eg2
    have hp2 := eg2 _ _ hp1
    have hL2 := eg2 _ _ hL'
    refine q_when (b := false) (et_test (ne_none no_given (el_lcT (K := K) (fun _ => false) (fun _ => .non) (ev_var rfl) (SqT.of hp2) (by rw [List.length_map]; have := c1.length_le; omega) (fun _ => rfl) (fun j x G3 eg3 hx => ?_) (fun j x G3 _ _ h => nomatch h)))) (fun c => nomatch c) (fun _ G3 eg3 => ?_)
    · obtain ⟨z, hz, rfl⟩ := ints_get hx
      have hzc := c1.subset (List.mem_of_getElem? hz)
      refine et_is (et_or (a := false) (et_is (et_not (et_B (ev_isi (b := true) (ev_var rfl) (fun _ _ => .base (.int _)) (by decide +kernel)))) rfl) fun _ => et_or (a := false) (et_B (ev_isi (b := false) (ev_var rfl) (fun _ _ => .base (.int _)) (by decide +kernel))) fun _ => et_test (ev_op (ev_var rfl) (ev_var rfl) (rv_niL (SqL.of (eg3 _ _ hL2)) rfl flat_ints))) ?_
      rw [inV_ints]; simp [hzc]
    have e03 := e02.trans eg3
    have hp3 := eg3 _ _ hp2
    have hL3 := eg3 _ _ hL2
    have e13 := eg2.trans eg3
    refine q_when (b := false) (et_test (ne_none no_given (el_lcR1n (fun _ => false) (fun _ => .non) (ea_cons (ev_op (cl1 e13 (ev_var rfl)) ev_c rv_I0) ea_nil) ⟨by omega, by have := c1.length_le; omega⟩ (fun _ => rfl) (fun j G4 eg4 hj => ?_) (fun j G4 _ _ h => nomatch h)))) (fun c => nomatch c) (fun _ G4 eg4 => ?_)
    · have hj1 : j < c.length := by omega
      have hj2 : j + 1 < c.length := by omega
      have a1 : (c.map V.int)[j]? = some (.int c[j]) := by rw [List.getElem?_map, List.getElem?_eq_getElem hj1]; rfl
      have a2 : (c.map V.int)[j + 1]? = some (.int c[j + 1]) := by rw [List.getElem?_map, List.getElem?_eq_getElem hj2]; rfl
      have lt := List.pairwise_iff_getElem.mp cso j (j + 1) hj1 hj2 (by omega)
      have hp4 : SqT K G4 p (c.map V.int) := SqT.of (eg4 _ _ hp3)
      refine et_is (et_test (ev_op (ev_op (ev_var rfl) (ev_var rfl) (rv_ixT hp4 (atI_nat a1))) (ev_op (ev_var rfl) (ev_op (ev_var rfl) ev_c rv_I0) (rv_ixT hp4 (at_of (show (j : Int) + 1 = ((j + 1 : Nat) : Int) by omega) a2))) rv_I0)) ?_
      exact decide_eq_false (by omega)
    have hp4 := eg4 _ _ hp3
    have hL4 := eg4 _ _ hL3
    refine s_asgL (el_flt (K := K) (a := Lp') (ls := ls) (fun z => !decide (z ∈ c)) (ev_var rfl) (SqL.of hL4) (by omega) (fun _ => rfl) (fun _ => rfl) (fun z G5 e5 hz => et_is (et_test (ev_op (ev_var rfl) (ev_var rfl) (rv_niT (SqT.of (e5 _ _ hp4)) rfl flat_ints))) (by rw [inV_ints]))) fun Lq G5 _ e5 hq => ⟨(e03.trans eg4).trans e5, behindI ls c 0, Lq, _, _, rfl, hq, Nat.le_trans behind_len rl16, behind_so so, ?_⟩
    rw [decide_eq_true (Nat.succ_pos i)]
    exact c3
  · rintro σ G ⟨eg, L, Lp, v4, v5, rfl, _⟩
    exact s_ret ev_c fun G1 eg1 => q G1 (eg.trans eg1)
end
end L2.U


set_option Elab.async false
set_option linter.all false
set_option maxRecDepth 100000
set_option maxHeartbeats 4000000
namespace L2.U
open PySem PySem.Spec PyProof.Rows Evl

section
variable {P : Program} {w : World} {K : PySem.W.Frag} {mg : Str → Option Value} {base : Heap}
theorem kpg_tup (K : PySem.W.Frag) {X : Cx} {pos : Pos} {es : List Expr} {k : Nat} {t : TGs} {n : Nat} (hc : X.calm = true) (h : PGs X es t) (hK : X.K = K := by rfl)
    (hn : (assignEach es X.env).length = n := by rfl) (hst : (assignEach es X.env).findIdx? (·.1) = none := by rfl) : PG X (.Tuple es k pos) (gTup K n t) := by
  subst hK
  exact pg_tup hc h hn hst
/-- a comprehension whose items are new: what stands after i items -/
structure NewR (R : Nat → Hp → List V → Prop) : Prop where
  ex : ∀ i H1 H2 ys, Ex H1 H2 → R i H1 ys → R i H2 ys
  mt : ∀ i H1 D us zs ys, H1 D = some (.lst us) → R i H1 ys → R i (upd H1 D (.lst zs)) ys
theorem el_new {tl te : TE} {t : TT} {σ : L2.St} {H : Hp} {a : Addr} {xs : List V} {j : Nat} {vs : List Nat} (R : Nat → Hp → List V → Prop) (f : Nat → Bool) (nr : NewR R) (h : Ev tl σ H (.ref a)) (hx : SqL K H a xs) (hz : xs.length ≤ 40000)
    (hw : ∀ x, wipe ((wipe σ vs).set j (some x)) vs = wipe σ vs)
    (ht : ∀ (i : Nat) (x : V) H1, Ex H H1 → xs[i]? = some x → EvT t ((wipe σ vs).set j (some x)) H1 (f i))
    (h0 : ∀ H1, Ex H H1 → R 0 H1 [])
    (hno : ∀ i H1 ys, i < xs.length → f i = false → R i H1 ys → R (i + 1) H1 ys)
    (he : ∀ (i : Nat) (x : V) H1, Ex H H1 → xs[i]? = some x → f i = true → ∀ Q : VK, (∀ v H2, Ex H1 H2 → (∀ H3 ys, Ex H2 H3 → R i H3 ys → R (i + 1) H3 (ys ++ [v])) → Q v H2) → te ((wipe σ vs).set j (some x)) H1 Q)
    {H0 : Hp} (e : Ex H H0) (Q : VK) (q : ∀ D ys H1, H0 D = none → Ex H0 H1 → H1 D = some (.lst ys) → R xs.length H1 ys → Q (.ref D) H1) : tLc (iList K tl) (gName j) t te vs σ H0 Q := by
  refine h H0 e _ fun H1 e1 => ⟨a, rfl, ⟨xs, ex_l (e.trans e1) hx⟩, fun D hD => ?_⟩
  refine lc_list (xs := xs) (fun i H' => Ex H1 H' ∧ ∃ ys, H' D = some (.lst ys) ∧ ys.length ≤ i ∧ R i H' ys) ⟨Ex.new hD, [], upd_same, Nat.le_refl _, h0 _ ((e.trans e1).trans (Ex.new hD))⟩ (fun i H' _ p => ex_l ((e.trans e1).trans p.1) hx) ?_ ?_
  · rintro i x H' hi ⟨e2, ys, hy, hl, r⟩
    have hlt := (List.getElem?_eq_some_iff.mp hi).1
    refine ⟨hw x, ht i x H' ((e.trans e1).trans e2) hi H' (Ex.refl _) _ fun H2 e3 => ?_⟩
    cases hf : f i with
    | false => exact iteF ⟨e2.trans e3, ys, e3 _ _ hy, Nat.le_succ_of_le hl, hno i _ _ hlt hf (nr.ex _ _ _ _ e3 r)⟩
    | true =>
      refine iteT (he i x H2 (((e.trans e1).trans e2).trans e3) hi hf _ fun v H3 e4 hr => ?_)
      have hy3 := e4 _ _ (e3 _ _ hy)
      refine ⟨ys, hy3, sz_lt (by omega), ((e2.trans e3).trans e4).mut hD, ys ++ [v], upd_same, by rw [List.length_append, List.length_singleton]; omega, nr.mt _ _ _ _ _ _ hy3 (hr H3 ys (Ex.refl _) (nr.ex _ _ _ _ (e3.trans e4) r))⟩
  · rintro H' ⟨e2, ys, hy, _, r⟩
    exact q D ys H' (fresh_back e1 hD) (e1.trans e2) hy r
/-- a tuple and one more item -/
theorem ev_snocT {ta tb : TE} {σ : L2.St} {H : Hp} {a : Addr} {xs : List V} {x : V} (ha : Ev ta σ H (.ref a)) (hx : H a = some (.tup xs)) (hl : xs.length ≤ 1000) (hb : Ev tb σ H x) {Q : VK} (q : ∀ p H1, Ex H H1 → H1 p = some (.tup (xs ++ [x])) → Q (.ref p) H1) : tOp (rCatA K) ta (tTup (tCons tb tNil)) σ H Q := by
  refine ha H (Ex.refl _) _ fun H1 e1 => ?_
  refine (eu_tup (ea_cons hb ea_nil) (by show 1 ≤ 100000; decide) : EvU (tTup (tCons tb tNil)) σ H [x]) H1 e1 _ fun p H2 hp e2 hpv => ?_
  have e12 := e1.trans e2
  refine ⟨a, p, xs, [x], rfl, rfl, SqT.of (e12 _ _ hx), SqT.of hpv, sz_of (by show xs.length + 1 ≤ _; omega), fun h => ?_, (fun _ h => by cases h), fun _ _ u hu => ?_⟩
  · subst h
    exact q p H2 e12 hpv
  · exact q u _ (e12.trans (Ex.new hu)) upd_same
theorem rv_eqT {H : Hp} {p : Addr} {c : List Int} (h : H p = some (.tup (c.map V.int))) (l : c.length ≤ 900) {ta : TE} {σ : L2.St} (ha : Ev ta σ H (.ref p)) : Ev (tOp (rEqD K) ta (tTup tNil)) σ H (.bl (decide (c = []))) := by
  refine ev_opU ha (eu_tup ea_nil (by decide)) fun u H1 hu e1 => rv_val fun H2 e2 Q k => ?_
  have rd := rd_row (K := K) (n := 0) ((e1.trans e2) _ _ h) l
  refine ⟨rowD c, .tuple [], rd.dp, .tup (SqT.of (e2 _ _ hu)) .nil, rd.shaped (by decide), shaped0, ?_⟩
  cases c with
  | nil => exact k
  | cons x r => exact k
theorem rows_new {ls : List Int} {p : Int → Bool} {f : Int → List Int} : NewR (fun i G ys => RowsT G ys (((ls.take i).filter p).map f)) := ⟨fun i H1 H2 ys e r => r.ex e, fun i H1 D us zs ys h r => r.mut h⟩
theorem rowsT_row {H : Hp} {c : List Int} {us : List V} {rs : List (List Int)} {q : Addr} (r : RowsT H us rs) (h : H q = some (.tup (c.map V.int))) : RowsT H (us ++ [.ref q]) (rs ++ [c]) := r.snoc h
theorem RowsT.app {H : Hp} {xs ys : List V} {rs ss : List (List Int)} (r : RowsT H xs rs) (s : RowsT H ys ss) : RowsT H (xs ++ ys) (rs ++ ss) := by
  refine ⟨by rw [List.length_append, List.length_append, r.1, s.1], fun j x ns hx hn => ?_⟩
  rcases app_get hx with ⟨c, h⟩ | ⟨c, h⟩
  · rw [List.getElem?_append_left (by have := r.1; omega)] at hn
    exact r.2 j x ns h hn
  · rw [List.getElem?_append_right (by have := r.1; omega), ← r.1] at hn
    exact s.2 _ x ns h hn

/-- the same, where what stands may not be the list that grows -/
structure NewD (R : Addr → Nat → Hp → List V → Prop) : Prop where
  ex : ∀ D i H1 H2 ys, Ex H1 H2 → R D i H1 ys → R D i H2 ys
  mt : ∀ D i H1 us zs ys, H1 D = some (.lst us) → R D i H1 ys → R D i (upd H1 D (.lst zs)) ys
theorem el_newD {tl te : TE} {t : TT} {σ : L2.St} {H : Hp} {a : Addr} {xs : List V} {j : Nat} {vs : List Nat} (R : Addr → Nat → Hp → List V → Prop) (nr : NewD R) (h : Ev tl σ H (.ref a)) (hx : SqL K H a xs) (hz : xs.length ≤ 40000)
    (hw : ∀ x, wipe ((wipe σ vs).set j (some x)) vs = wipe σ vs)
    (ht : ∀ (i : Nat) (x : V) H1, Ex H H1 → xs[i]? = some x → EvT t ((wipe σ vs).set j (some x)) H1 true)
    (h0 : ∀ D H1, Ex H H1 → R D 0 H1 [])
    (he : ∀ (i : Nat) (x : V) D us H1, Ex H H1 → H1 D = some (.lst us) → xs[i]? = some x → ∀ Q : VK, (∀ v H2, Ex H1 H2 → (∀ H3 ys, Ex H2 H3 → R D i H3 ys → R D (i + 1) H3 (ys ++ [v])) → Q v H2) → te ((wipe σ vs).set j (some x)) H1 Q)
    {H0 : Hp} (e : Ex H H0) (Q : VK) (q : ∀ D ys H1, H0 D = none → Ex H0 H1 → H1 D = some (.lst ys) → R D xs.length H1 ys → Q (.ref D) H1) : tLc (iList K tl) (gName j) t te vs σ H0 Q := by
  refine h H0 e _ fun H1 e1 => ⟨a, rfl, ⟨xs, ex_l (e.trans e1) hx⟩, fun D hD => ?_⟩
  refine lc_list (xs := xs) (fun i H' => Ex H1 H' ∧ ∃ ys, H' D = some (.lst ys) ∧ ys.length ≤ i ∧ R D i H' ys) ⟨Ex.new hD, [], upd_same, Nat.le_refl _, h0 _ _ ((e.trans e1).trans (Ex.new hD))⟩ (fun i H' _ p => ex_l ((e.trans e1).trans p.1) hx) ?_ ?_
  · rintro i x H' hi ⟨e2, ys, hy, hl, r⟩
    have hlt := (List.getElem?_eq_some_iff.mp hi).1
    refine ⟨hw x, ht i x H' ((e.trans e1).trans e2) hi H' (Ex.refl _) _ fun H2 e3 => ?_⟩
    refine iteT (he i x D ys H2 (((e.trans e1).trans e2).trans e3) (e3 _ _ hy) hi _ fun v H3 e4 hr => ?_)
    have hy3 := e4 _ _ (e3 _ _ hy)
    refine ⟨ys, hy3, sz_lt (by omega), ((e2.trans e3).trans e4).mut hD, ys ++ [v], upd_same, by rw [List.length_append, List.length_singleton]; omega, nr.mt _ _ _ _ _ _ hy3 (hr H3 ys (Ex.refl _) (nr.ex _ _ _ _ _ (e3.trans e4) r))⟩
  · rintro H' ⟨e2, ys, hy, _, r⟩
    exact q D ys H' (fresh_back e1 hD) (e1.trans e2) hy r
theorem q_tup2M {ta tb : TE} {g : TG} {rest : TS} {D : Ends} {σ : L2.St} {H : Hp} {M : V → Hp → Prop} (h : ∀ Q' : VK, (∀ v H', M v H' → Q' v H') → ta σ H Q') (k : ∀ v H', M v H' → tCons tb tNil σ H' (fun vs H2 => (v :: vs).length ≤ sizeLine ∧ ∀ t, H2 t = none → g (.ref t) σ (upd H2 t (.tup (v :: vs))) fun σ2 H3 => rest D σ2 H3)) : tSeq (tAsg (tTup (tCons ta (tCons tb tNil))) g) rest D σ H := h _ k
theorem ev_eqI {ta : TE} {σ : L2.St} {H : Hp} {l : Addr} {L : List Int} (ha : Ev ta σ H (.ref l)) (hl : H l = some (.lst (L.map V.int))) (n : L.length ≤ 900) : Ev (tOp (rEqD K) ta (tLst tNil)) σ H (.bl (decide (L = []))) :=
  ev_opL ha (el_lst ea_nil (by decide)) fun p H1 hp e1 => rv_val fun H2 e2 Q k => by
    have r := rdl_ints (K := K) (ok := fun _ => True) (H := H2) (n := 0) L
    have rd : Rd K (fun _ => True) H2 1 (.ref l) (.list (L.map PyData.int)) := .lst ((e1.trans e2) _ _ hl) trivial r.1 (by rw [List.length_map]; omega) r.2
    refine ⟨.list (L.map PyData.int), .list [], rd.dp, .lst (SqL.of (e2 _ _ hp)) .nil, rd.shaped (by decide), rfl, ?_⟩
    cases L with
    | nil => exact k
    | cons x r => exact k
/-- the rounds of the pairs -/
theorem el_firsts {s0 s1 s3 s4 s5 s6 s7 s8 s9 s10 s11 s12 : Option V} {H : Hp} {F : Addr} {xs : List V} {ps : List (List (List Int) × List Int)} {ok : Addr → Prop} (hF : H F = some (.lst xs)) (r : RowsP ok H xs ps) (l : xs.length ≤ 40000) (Q : VK) (q : ∀ D ys H1, H D = none → Ex H H1 → H1 D = some (.lst ys) → RowsTT H1 ys (ps.map Prod.fst) → Q (.ref D) H1) :
    tLc (iList K (tVar 2)) (gTup K 2 (gCons (gName 5) (gCons (gName 6) gNil))) tYes (tVar 5) [5, 6] [s0, s1, some (.ref F), s3, s4, s5, s6, s7, s8, s9, s10, s11, s12] H Q := by
  refine ⟨_, rfl, F, rfl, ⟨xs, SqL.of hF⟩, fun D hD => ?_⟩
  refine lc_list (xs := xs) (fun i H' => Ex H H' ∧ ∃ ys, H' D = some (.lst ys) ∧ ys.length ≤ i ∧ RowsTT H' ys ((ps.take i).map Prod.fst)) ⟨Ex.new hD, [], upd_same, Nat.le_refl _, by rw [List.take_zero]; exact RowsTT.nil⟩ (fun i H' _ p => SqL.of (p.1 _ _ hF)) ?_ ?_
  · rintro i x H' hi ⟨e2, ys, hy, hl, rr⟩
    have hlt := (List.getElem?_eq_some_iff.mp hi).1
    have hp : ps[i]? = some (ps[i]'(by rw [← r.1]; exact hlt)) := List.getElem?_eq_getElem _
    obtain ⟨t, q', l', us, rfl, h2, h3, h4, h5, h6⟩ := (r.ex e2).2 i x _ hi hp
    refine ⟨t, _, rfl, SqT.of h2, rfl, _, _, rfl, _, _, rfl, rfl, ⟨rfl, tyes ⟨_, rfl, ys, hy, sz_lt (by omega), e2.mut hD, ys ++ [.ref q'], upd_same, by rw [List.length_append, List.length_singleton]; omega, ?_⟩⟩⟩
    have tk : ps.take (i + 1) = ps.take i ++ [ps[i]'(by rw [← r.1]; exact hlt)] := by rw [List.take_add_one, hp]; rfl
    rw [tk, List.map_append]
    exact (rr.snoc h3 h4).mut hy
  · rintro H' ⟨e2, ys, hy, _, rr⟩
    rw [r.1, List.take_length] at rr
    exact q D ys H' hD e2 hy rr
end
end L2.U


set_option Elab.async false
set_option linter.all false
set_option maxRecDepth 100000
set_option maxHeartbeats 4000000
namespace L2.U
open PySem PySem.Spec PyProof.Rows Evl

section
variable {P : Program} {w : World} {K : PySem.W.Frag} {mg : Str → Option Value} {base : Heap}
theorem lastI_at {c : List Int} (h : c ≠ []) : (c.map V.int)[c.length - 1]? = some (.int (lastI c)) := by
  have hl : c.length - 1 < c.length := by
    have := List.length_pos_iff.mpr h
    omega
  rw [List.getElem?_map, List.getElem?_eq_getElem hl]
  unfold lastI
  rw [List.getD_eq_getElem?_getD, List.getElem?_eq_getElem hl]
  rfl
theorem ret_firsts {s0 s1 s3 s4 s5 s6 s7 s8 s9 s10 s11 s12 : Option V} {H : Hp} {F : Addr} {xs : List V} {ps : List (List (List Int) × List Int)} {ok : Addr → Prop} {E : Ends} (hF : H F = some (.lst xs)) (r : RowsP ok H xs ps) (l : xs.length ≤ 40000) (q : ∀ D ys H1, H D = none → Ex H H1 → H1 D = some (.lst ys) → RowsTT H1 ys (ps.map Prod.fst) → rSortedTT K [.ref D] H1 E.rt) :
    tRet (tCB (rSortedTT K) (tCons (tLc (iList K (tVar 2)) (gTup K 2 (gCons (gName 5) (gCons (gName 6) gNil))) tYes (tVar 5) [5, 6]) tNil)) E [s0, s1, some (.ref F), s3, s4, s5, s6, s7, s8, s9, s10, s11, s12] H := el_firsts hF r l (fun v H' => rSortedTT K [v] H' E.rt) q
def SubAt (rest : List Int) (m : Nat) (sub : List (List Int)) : Prop := sub = subsL rest m ∨ (m = 0 ∧ sub = [] ∧ rest = [])
theorem SubAt.next {rest : List Int} {m : Nat} {sub : List (List Int)} (h : SubAt rest m sub) : sub.flatMap (grow rest) = subsL rest (m + 1) := by
  rcases h with h | ⟨rfl, h2, h3⟩
  · rw [h]; rfl
  · rw [h2, h3]; rfl
theorem SubAt.mem {rest : List Int} {m : Nat} {sub : List (List Int)} (h : SubAt rest m sub) : ∀ c ∈ sub, c.length = m ∧ ∀ z ∈ c, z ∈ rest := by
  rcases h with h | ⟨rfl, h2, h3⟩
  · rw [h]; exact subs_mem rest m
  · rw [h2]; intro c hc; cases hc
theorem SubAt.len {rest : List Int} {m : Nat} {sub : List (List Int)} (h : SubAt rest m sub) (so : rest.Pairwise (· < ·)) (l : rest.length ≤ 6) : sub.length ≤ 64 := by
  rcases h with h | ⟨rfl, h2, h3⟩
  · rw [h]; exact subs_len so l m
  · rw [h2]; exact Nat.zero_le _
def spLListing (K : PySem.W.Frag) : Sp := fun vs H Q _ => ∃ (a b : Addr) (ks ss : List Int), vs = [.ref a, .ref b] ∧ H a = some (.lst (ks.map V.int)) ∧ H b = some (.lst (ss.map V.int)) ∧ KOK ks ∧ ks.length ≤ 6 ∧ SOK ss ∧
  ∀ p xs H', Ex H H' → H' p = some (.lst xs) → RowsTT H' xs ((accF false [([], ks)] ss).map Prod.fst) → Q (.ref p) H'
theorem acc_rows {ks : List Int} (kk : KOK ks) (k6 : ks.length ≤ 6) {ss : List Int} (hs : ∀ z ∈ ss, 1 ≤ z) : ∀ p ∈ accF false [([], ks)] ss, p.1.length ≤ 16 ∧ (∀ c ∈ p.1, c.length ≤ 16) ∧ p.2.length ≤ 6 ∧ p.2.Pairwise (· < ·) := by
  intro p h
  have hm : p.1 ∈ (accF false [([], ks)] ss).map Prod.fst := List.mem_map.mpr ⟨p, h, rfl⟩
  rw [list_all kk.so (by omega) hs] at hm
  obtain ⟨r, hr, e⟩ := List.mem_map.mp hm
  have hr := List.mem_range.mp hr
  have m := many_six (ss := ss) k6 hs
  obtain ⟨ch, _, _⟩ := rnd_chain ss ks (r : Int) kk.nd (by omega) hs (by omega) (by omega)
  rw [e] at ch
  obtain ⟨h1, h2⟩ := chr_len _ ks kk.nd ch
  obtain ⟨h3, h4⟩ := acc_left (m := 6) ss false [([], ks)] (fun q hq => by rw [List.mem_singleton] at hq; rw [hq]; exact ⟨k6, kk.so⟩) p h
  exact ⟨by omega, fun c hc => by have := h2 c hc; omega, h3, h4⟩
theorem flg_take {ss : List Int} {i : Nat} (h : i < ss.length) : flg false (ss.take i) = decide (0 < i) := by
  cases i with
  | zero => rfl
  | succ i =>
    cases ss with
    | nil => cases h
    | cons x r => rfl
theorem ok_law_listing (T : TK K mg) : FnOk P w K mg base CX0 2 T.law_listing.a T.law_listing.fd ["wires", "sizes"] (spLListing K) := by
  refine T.law_listing.F.ok sc_law_listing (fun vs H Q E h => ?_) (fun cdv A outer s H vs Q E hr h => ?_)
  · obtain ⟨a, b, ks, ss, rfl, _⟩ := h; rfl
  obtain ⟨a, b, ks, ss, rfl, ha, hb, kk, k6, sk, q⟩ := h
  refine ⟨_, (pss_cons (ps_set (i := 2) sc_law_listing.nd rfl (Or.inl rfl) (pe_lst (pa_cons (pe_tup (pa_cons (pe_tup pa_nil) (pa_cons (pe_callTy (klist K) (by rfl) T.z_list (by decide +kernel) (pa_cons (pv 0) pa_nil)) pa_nil))) pa_nil)))
    (pss_cons (ps_for PassesOwn.never rfl (pi_range1 rfl T.z_range (pa_cons (pe_callB (klen K) (by rfl) T.z_len (by decide +kernel) (pa_cons (pv 1) pa_nil)) pa_nil)) (pg_name (i := 3) sc_law_listing.nd rfl (Or.inl rfl)) (pss_cons (ps_set (i := 4) sc_law_listing.nd rfl (Or.inl rfl) (pe_lst pa_nil))
    (pss_cons (ps_for PassesOwn.never rfl (kpil K (pv 2)) (pg_tup (by rfl) (pgs_cons (pg_name (i := 5) sc_law_listing.nd rfl (Or.inr rfl)) (pgs_cons (pg_name (i := 6) sc_law_listing.nd rfl (Or.inl rfl)) pgs_nil))) (pss_cons (ps_asg (pe_tup (pa_cons (pe_ifExp (pt_cmpR op_gt (pv 3) pe_int (nomark _)) (pe_slice (kslL K) (pv 6) (po_some pe_int) po_none) (pv 6)) (pa_cons (pe_lst (pa_cons (pe_tup pa_nil) pa_nil)) pa_nil))) (pg_tup (by rfl) (pgs_cons (pg_name (i := 7) sc_law_listing.nd rfl (Or.inr rfl)) (pgs_cons (pg_name (i := 8) sc_law_listing.nd rfl (Or.inl rfl)) pgs_nil))))
    (pss_cut (ps_if (PW.pt (pw_and (pt_cmpR op_gt (pv 3) pe_int (nomark _)) (pw_and1 (pt_cmpR (keqD K hr.units) (pv 6) (pe_lst pa_nil) (nomark _))))) (pss_one (ps_set (i := 8) sc_law_listing.nd rfl (Or.inl rfl) (pe_lst pa_nil))) pss_nil)
    (pss_cons (ps_for PassesOwn.never rfl (pi_range1 rfl T.z_range (pa_cons (pe_ix (kixl K) (pv 1) (pv 3) (fun _ _ => rfl)) pa_nil)) (pg_name (i := 9) sc_law_listing.nd rfl (Or.inl rfl)) (pss_cons (ps_set (i := 10) sc_law_listing.nd rfl (Or.inl rfl) (pe_lst pa_nil))
    (pss_cons (ps_for PassesOwn.never rfl (kpil K (pv 8)) (pg_name (i := 11) sc_law_listing.nd rfl (Or.inr rfl)) (pss_one (ps_expr (pe_bm PySem.F.plainAttrs_list PySem.F.slot_list_extend PySem.F.type_list_extend mt_extend (pv 10) (pa_cons (pe_lc (own := [("wire", 12)]) (g := gName 12) (by rfl) sc_law_listing.nd (kpil K (pv 7)) (blkOk_by (own := [("wire", 12)]) (N := ["wires", "sizes", "found", "at", "longer", "rounds", "left", "rest", "some", "turn", "more", "one", "wire"]) (sc := defScope s_law_listing) (by decide +kernel)) (fun _ _ _ _ _ => (pg_name (i := 12) sc_law_listing.nd rfl (Or.inl rfl))) (fun _ _ _ _ _ => (pts_one (PW.pt (pw_or (pt_cmpR (keqD K hr.units) (pv 11) (pe_tup pa_nil) (nomark _)) (pw_or1 (pt_cmpR op_gt (pv 12) (pe_ix (kixt K) (pv 11) (pe_op op_sub (pe_callB (klen K) (by rfl) T.z_len (by decide +kernel) (pa_cons (pv 11) pa_nil)) pe_int) (fun _ _ => rfl)) (nomark _))))))) (fun _ _ _ _ _ => (pe_op (kcatA K) (pv 11) (pe_tup (pa_cons (pv 12) pa_nil))))) pa_nil)))))
    (pss_one (ps_set (i := 8) sc_law_listing.nd rfl (Or.inl rfl) (pv 10))))))
    (pss_one (ps_expr (pe_bm PySem.F.plainAttrs_list PySem.F.slot_list_extend PySem.F.type_list_extend mt_extend (pv 4) (pa_cons (pe_lc (own := [("one", 11)]) (g := gName 11) (by rfl) sc_law_listing.nd (kpil K (pv 8)) (blkOk_by (own := [("one", 11)]) (N := ["wires", "sizes", "found", "at", "longer", "rounds", "left", "rest", "some", "turn", "more", "one", "wire"]) (sc := defScope s_law_listing) (by decide +kernel)) (fun _ _ _ _ _ => (pg_name (i := 11) sc_law_listing.nd rfl (Or.inr rfl))) (fun _ _ _ _ _ => pts_nil) (fun _ _ _ _ _ => (pe_tup (pa_cons (pe_op (kcatA K) (pv 5) (pe_tup (pa_cons (pv 11) pa_nil))) (pa_cons (pe_lc (own := [("wire", 12)]) (g := gName 12) (by rfl) sc_law_listing.nd (kpil K (pv 7)) (blkOk_by (own := [("wire", 12)]) (N := ["wires", "sizes", "found", "at", "longer", "rounds", "left", "rest", "some", "turn", "more", "one", "wire"]) (sc := lcs_law_listing) (by decide +kernel)) (fun _ _ _ _ _ => (pg_name (i := 12) sc_law_listing.nd rfl (Or.inl rfl))) (fun _ _ _ _ _ => (pts_one (pt_cmpR (knotin K) (pv 12) (pv 11) (by rfl)))) (fun _ _ _ _ _ => (pv 12))) pa_nil))))) pa_nil))))))))
    (pss_one (ps_set (i := 2) sc_law_listing.nd rfl (Or.inl rfl) (pv 4))))))
    (pss_one (ps_ret (pe_callB (ksortedTT K (hu2 hr)) (by rfl) T.z_sorted (by decide +kernel) (pa_cons (pe_lc (own := [("rounds", 5), ("left", 6)]) (g := gTup K 2 (gCons (gName 5) (gCons (gName 6) gNil))) (by rfl) sc_law_listing.nd (kpil K (pv 2)) (blkOk_by (own := [("rounds", 5), ("left", 6)]) (N := ["wires", "sizes", "found", "at", "longer", "rounds", "left", "rest", "some", "turn", "more", "one", "wire"]) (sc := defScope s_law_listing) (by decide +kernel)) (fun _ _ _ _ _ => (kpg_tup K (by rfl) (pgs_cons (pg_name (i := 5) sc_law_listing.nd rfl (Or.inl rfl)) (pgs_cons (pg_name (i := 6) sc_law_listing.nd rfl (Or.inl rfl)) pgs_nil)))) (fun _ _ _ _ _ => pts_nil) (fun _ _ _ _ _ => (pv 5))) pa_nil)))))), ?_⟩
  have s1 : ∀ z ∈ ss, 1 ≤ z := fun z hz => (sk.b z hz).1
  refine ⟨Nat.zero_le _, fun e0 he0 => ⟨_, rfl, a, _, rfl, .inl (SqL.of ((Ex.new he0) _ _ ha)), fun l0 hl0 => ⟨two_le, fun t0 ht0 => ⟨(by show 1 ≤ sizeLine; decide), fun F hF => ?_⟩⟩⟩⟩
  have x1 := Ex.new (o := .tup []) he0
  have x2 := Ex.new (o := .lst (ks.map V.int)) hl0
  have x3 := Ex.new (o := .tup [.ref e0, .ref l0]) ht0
  have x4 := Ex.new (o := .lst [.ref t0]) hF
  have u1 := x4 _ _ (x3 _ _ (x2 _ _ (upd_same (H := H) (a := e0) (o := .tup []))))
  have u2 := x4 _ _ (x3 _ _ (upd_same (H := upd H e0 (.tup [])) (a := l0) (o := .lst (ks.map V.int))))
  have u3 := x4 _ _ (upd_same (H := upd (upd H e0 (.tup [])) l0 (.lst (ks.map V.int))) (a := t0) (o := .tup [.ref e0, .ref l0]))
  have u4 : (upd (upd (upd (upd H e0 (.tup [])) l0 (.lst (ks.map V.int))) t0 (.tup [.ref e0, .ref l0])) F (.lst [.ref t0])) F = some (.lst [.ref t0]) := upd_same
  have e12 := ((x1.trans x2).trans x3).trans x4
  generalize upd (upd (upd (upd H e0 (.tup [])) l0 (.lst (ks.map V.int))) t0 (.tup [.ref e0, .ref l0])) F (.lst [.ref t0]) = H2 at u1 u2 u3 u4 e12 ⊢
  clear x1 x2 x3 x4
  have bl : ∀ {te : TE} {σ : L2.St} {G : Hp}, Ex H G → Ev te σ G (.ref b) → Ev (tCB (rLen K) (tCons te tNil)) σ G (.int (ss.length : Int)) := fun {te σ G} e h => by
    have := ev_lenV (K := K) h (.inl (SqL.of (e _ _ hb)))
    rw [List.length_map] at this
    exact this
  have sl := sk.l
  refine q_forR1 (j := 3) (ea_cons (bl e12 (ev_var rfl)) ea_nil) ⟨by omega, by omega⟩ (fun i σ G => Ex H G ∧ ∃ (Fp : Addr) (xs : List V) (v3 v4 v5 v6 v7 v8 v9 v10 v11 : Option V), σ = [some (.ref a), some (.ref b), some (.ref Fp), v3, v4, v5, v6, v7, v8, v9, v10, v11, none] ∧ G Fp = some (.lst xs) ∧ RowsP (fun _ => True) G xs (accF false [([], ks)] (ss.take i)))
    (fun G e => ⟨e12.trans e, F, _, _, _, _, _, _, _, _, _, _, rfl, e _ _ u4, RowsP.one (e _ _ u3) (e _ _ u1) RowsT.nil (e _ _ u2) trivial⟩) ?_ ?_
  · rintro i σ G hi ⟨eg, Fp, xs, v3, v4, v5, v6, v7, v8, v9, v10, v11, rfl, hF1, rF⟩
    have his : i < ss.length := by omega
    have hs : ss[i]? = some ss[i] := List.getElem?_eq_getElem his
    generalize ss[i] = s at hs
    have hsb := sk.b s (List.mem_of_getElem? hs)
    have hsV : (ss.map V.int)[i]? = some (.int s) := by rw [List.getElem?_map, hs]; rfl
    have tk : ss.take (i + 1) = ss.take i ++ [s] := take_snoc hs
    have st : ∀ z ∈ ss.take (i + 1), 1 ≤ z := fun z hz => s1 z (List.mem_of_mem_take hz)
    have st0 : ∀ z ∈ ss.take i, 1 ≤ z := fun z hz => s1 z (List.mem_of_mem_take hz)
    have tot := accF_len kk.so k6 st
    have tot0 := accF_len kk.so k6 st0
    have acr := acc_rows kk k6 st0
    rw [tk, accF_snoc, flg_take his]
    rw [tk, accF_snoc, flg_take his] at tot
    generalize accF false [([], ks)] (ss.take i) = acc at rF tot tot0 acr
    refine q_asgL (el_lst ea_nil (by decide)) fun L G1 hL e1 hLv => ?_
    refine q_forL (a := Fp) (xs := xs) (ev_var rfl) (SqL.of (e1 _ _ hF1)) (fun j σ G' => Ex G G' ∧ ∃ (ys : List V) (v5 v6 v7 v8 v9 v10 v11 : Option V), σ = [some (.ref a), some (.ref b), some (.ref Fp), some (.int (i : Int)), some (.ref L), v5, v6, v7, v8, v9, v10, v11, none] ∧ G' L = some (.lst ys) ∧ RowsP (fun a => a ≠ L) G' ys ((acc.take j).flatMap (step1 (decide (0 < i)) s)))
      (fun G' e => ⟨e1.trans e, [], _, _, _, _, _, _, _, rfl, e _ _ hLv, by rw [List.take_zero]; exact RowsP.nil⟩) (fun j σ G' _ p => SqL.of (p.1 _ _ hF1)) ?_ ?_
    · rintro j x σ G2 hj ⟨eg2, ys, v5, v6, v7, v8, v9, v10, v11, rfl, hL2, rL⟩
      have hjl := (List.getElem?_eq_some_iff.mp hj).1
      have hps : acc[j]? = some (acc[j]'(by rw [← rF.1]; exact hjl)) := List.getElem?_eq_getElem _
      obtain ⟨t, r, l, us, rfl, ht, hr, rt, hl, _⟩ := (rF.ex eg2).2 j x _ hj hps
      obtain ⟨rs16, cs16, L6, Lso⟩ := acr _ (List.mem_of_getElem? hps)
      have ft := flatMap_take (f := step1 (decide (0 < i)) s) hps
      have lt := flatMap_take_len (f := step1 (decide (0 < i)) s) (xs := acc) (i := j + 1)
      rw [ft]
      rw [ft, List.length_append] at lt
      generalize acc[j]'(by rw [← rF.1]; exact hjl) = p at hps rt hl rs16 cs16 L6 Lso lt ft ⊢
      obtain ⟨rs, L0⟩ := p
      have eHG := eg.trans eg2
      refine ⟨t, _, rfl, SqT.of ht, rfl, _, _, rfl, _, _, rfl, rfl, ?_⟩
      have stp : step1 (decide (0 < i)) s (rs, L0) = (subsL (restP (decide (0 < i)) L0) s.toNat).map fun c => (rs ++ [c], behindI (restP (decide (0 < i)) L0) c 0) := rfl
      rw [stp] at lt ⊢
      have hr2 : G2 r = some (.tup us) := hr
      have rt2 : RowsT G2 us rs := rt
      have hl2 : G2 l = some (.lst (L0.map V.int)) := hl
      have L06 : L0.length ≤ 6 := L6
      have rs16' : rs.length ≤ 16 := rs16
      have rso : (restP (decide (0 < i)) L0).Pairwise (· < ·) := restP_so Lso
      have rln : (restP (decide (0 < i)) L0).length ≤ 6 := Nat.le_trans restP_len L06
      have rem : L0 = [] → restP (decide (0 < i)) L0 = [] := fun h => by
        subst h
        unfold restP
        split <;> rfl
      clear stp ft
      refine q_tup2M (M := fun v G3 => ∃ R, v = .ref R ∧ Ex G2 G3 ∧ G3 R = some (.lst ((restP (decide (0 < i)) L0).map V.int))) (fun Q' k => ?_) ?_
      · refine ⟨_, rfl, _, _, rfl, rfl, _, rfl, ite2 (fun c => ?_) (fun c => ?_)⟩
        · have c' : 0 < i := by have := of_decide_eq_true c; omega
          refine (el_sl (ev_var rfl) (eo_some (i := ((1 : Nat) : Int)) ev_c) eo_none (SqL.of hl2) : EvL (tSl (rSlL K) (tVar 6) (tPart (tC (.int 1))) tNoPart) _ G2 (cutV (L0.map V.int) (some ((1 : Nat) : Int)) none)) G2 (Ex.refl _) _ fun R G3 _ e3 h3 => k _ _ ⟨R, rfl, e3, ?_⟩
          rw [cut_from] at h3
          rw [decide_eq_true c', restP_t, List.map_drop]
          exact h3
        · have c' : ¬ 0 < i := by have := of_decide_eq_false (Bool.eq_false_iff.mpr c); omega
          exact ⟨_, rfl, k _ _ ⟨l, rfl, Ex.refl _, by rw [decide_eq_false c']; exact hl2⟩⟩
      rintro v G3 ⟨R, rfl, e3, hR⟩
      generalize restP (decide (0 < i)) L0 = left at lt rso rln rem hR ⊢
      refine ⟨Nat.zero_le _, fun e5 he5 => ⟨(by show 1 ≤ sizeLine; decide), fun S hS => ⟨two_le, fun tt htt => ⟨tt, _, rfl, SqT.of upd_same, rfl, _, _, rfl, _, _, rfl, rfl, ?_⟩⟩⟩⟩
      have x1 := Ex.new (o := .tup []) he5
      have x2 := Ex.new (o := .lst [.ref e5]) hS
      have x3 := Ex.new (o := .tup [.ref R, .ref S]) htt
      have f1 := x3 _ _ (x2 _ _ (upd_same (H := G3) (a := e5) (o := .tup [])))
      have f2 := x3 _ _ (upd_same (H := upd G3 e5 (.tup [])) (a := S) (o := .lst [.ref e5]))
      have e34 := (x1.trans x2).trans x3
      generalize upd (upd (upd G3 e5 (.tup [])) S (.lst [.ref e5])) tt (.tup [.ref R, .ref S]) = G4 at e34 f1 f2 ⊢
      clear x1 x2 x3
      have e24 := e3.trans e34
      have hR4 := e34 _ _ hR
      refine q_cut (M := fun σ' G5 => Ex G4 G5 ∧ ∃ (Sp : Addr) (zs : List V) (sub : List (List Int)), σ' = [some (.ref a), some (.ref b), some (.ref Fp), some (.int (i : Int)), some (.ref L), some (.ref r), some (.ref l), some (.ref R), some (.ref Sp), v9, v10, v11, none] ∧ G5 Sp = some (.lst zs) ∧ RowsT G5 zs sub ∧ SubAt left 0 sub) ?_ ?_
      · refine s_when (b := decide (0 < i) && decide (L0 = [])) (et_and (a := decide (0 < i)) (et_is (et_test (ev_op (ev_var rfl) ev_c rv_I0)) (decide_eq_decide.mpr ⟨fun h => by omega, fun h => by omega⟩)) fun _ => et_test (ev_eqI (ev_var rfl) (e24 _ _ hl2) (by omega))) (fun c G5 e45 => ?_) (fun c G5 e45 => ?_)
        · have c' : L0 = [] := of_decide_eq_true (Bool.and_eq_true_iff.mp c).2
          exact s_asgL (el_lst ea_nil (by decide)) fun S' G6 _ e56 hS' => ⟨e45.trans e56, S', [], [], rfl, hS', RowsT.nil, .inr ⟨rfl, rfl, rem c'⟩⟩
        · refine ⟨e45, S, [.ref e5], [[]], rfl, e45 _ _ f2, ⟨rfl, fun k x ns hx hn => ?_⟩, .inl rfl⟩
          match k, hx, hn with
          | 0, hx, hn => cases Option.some.inj hx; cases Option.some.inj hn; exact ⟨e5, rfl, e45 _ _ f1⟩
      rintro σ' G5' ⟨e45', Sp0, zs0, sub0, rfl, hSp0, rS0, sb0⟩
      have e25' := e24.trans e45'
      have hR5' := e45' _ _ hR4
      refine q_forR1 (j := 9) (n := s) (ea_cons (ev_op (ev_var rfl) (ev_var rfl) (rv_ixL (SqL.of ((eHG.trans e25') _ _ hb)) (atI_nat hsV))) ea_nil) ⟨by omega, by omega⟩ (fun m σ G5 => Ex G5' G5 ∧ ∃ (Sp : Addr) (zs : List V) (sub : List (List Int)) (v9 v10 v11 : Option V), σ = [some (.ref a), some (.ref b), some (.ref Fp), some (.int (i : Int)), some (.ref L), some (.ref r), some (.ref l), some (.ref R), some (.ref Sp), v9, v10, v11, none] ∧ G5 Sp = some (.lst zs) ∧ RowsT G5 zs sub ∧ SubAt left m sub)
        (fun G5 e => ⟨e, Sp0, zs0, sub0, _, _, _, rfl, e _ _ hSp0, rS0.ex e, sb0⟩) ?_ ?_
      · rintro m σ G5 hm ⟨e45, Sp, zs, sub, v9, v10, v11, rfl, hSp, rS, sb⟩
        refine q_asgL (el_lst ea_nil (by decide)) fun M G6 hM e56 hMv => ?_
        have nx := sb.next
        have tl : (subsL left (m + 1)).length ≤ 64 := subs_len rso rln _
        have tl0 := sb.len rso rln
        have sm := sb.mem
        rw [← nx] at tl
        refine q_forLn (j := 11) (a := Sp) (xs := zs) (ev_var rfl) (SqL.of (e56 _ _ hSp)) (fun k σ G7 => Ex G5 G7 ∧ ∃ (ws : List V) (v11 : Option V), σ = [some (.ref a), some (.ref b), some (.ref Fp), some (.int (i : Int)), some (.ref L), some (.ref r), some (.ref l), some (.ref R), some (.ref Sp), some (.int (m : Int)), some (.ref M), v11, none] ∧ G7 M = some (.lst ws) ∧ RowsT G7 ws ((sub.take k).flatMap (grow left)))
          (fun G7 e => ⟨e56.trans e, [], _, rfl, e _ _ hMv, by rw [List.take_zero]; exact RowsT.nil⟩) (fun k σ G7 _ p => SqL.of (p.1 _ _ hSp)) ?_ ?_
        · rintro k x σ G7 hk ⟨e57, ws, v11, rfl, hM7, rM⟩
          have hkl := (List.getElem?_eq_some_iff.mp hk).1
          have hcs : sub[k]? = some (sub[k]'(by rw [← rS.1]; exact hkl)) := List.getElem?_eq_getElem _
          obtain ⟨o, rfl, ho⟩ := (rS.ex e57).2 k x _ hk hcs
          obtain ⟨cl, cin⟩ := sm _ (List.mem_of_getElem? hcs)
          generalize sub[k]'(by rw [← rS.1]; exact hkl) = c at hcs ho cl cin
          have c17 : c.length ≤ 17 := by omega
          have ft := flatMap_take (f := grow left) hcs
          have lt2 := flatMap_take_len (f := grow left) (xs := sub) (i := k + 1)
          rw [ft]
          rw [ft, List.length_append] at lt2
          have hLf7 := e57 _ _ (e45 _ _ hR5')
          have gw : grow left c = (left.filter fun k => decide (c = []) || decide (lastI c < k)).map fun k => c ++ [k] := rfl
          rw [gw] at lt2 ⊢
          refine ⟨_, rfl, .inl ⟨rfl, _, SqL.of hM7⟩, ?_⟩
          refine el_new (K := K) (a := R) (xs := left.map V.int) (j := 12) (fun i G ys => RowsT G ys (((left.take i).filter fun k => decide (c = []) || decide (lastI c < k)).map fun k => c ++ [k])) (fun i => decide (c = []) || decide (lastI c < left.getD i 0)) rows_new (ev_var rfl) (SqL.of hLf7) (by rw [List.length_map]; omega) (fun _ => rfl) (fun i x G8 e8 hx => ?_) (fun G8 _ => by rw [List.take_zero]; exact RowsT.nil) (fun i G8 ys hi hf r => ?_) (fun i x G8 e8 hx hf Q' k' => ?_) (Ex.refl G7) _ fun D ds G8 hD e8 hDv rD => ?_
          · obtain ⟨z, hz, rfl⟩ := ints_get hx
            have eg : left.getD i 0 = z := by rw [List.getD_eq_getElem?_getD, hz]; rfl
            rw [eg]
            have ho8 := e8 _ _ ho
            refine et_or (et_test (rv_eqT ho8 (by omega) (ev_var rfl))) fun cn => ?_
            have cne : c ≠ [] := of_decide_eq_false cn
            have ll := ev_lenV (K := K) (te := tVar 11) (σ := (wipe [some (.ref a), some (.ref b), some (.ref Fp), some (.int ((‹Nat› : Nat) : Int)), some (.ref L), some (.ref r), some (.ref l), some (.ref R), some (.ref Sp), some (.int (m : Int)), some (.ref M), some (.ref o), none] [12]).set 12 (some (.int z))) (H := G8) (a := o) (xs := c.map V.int) (ev_var rfl) (.inr (SqT.of ho8))
            rw [List.length_map] at ll
            have cpos := List.length_pos_iff.mpr cne
            refine et_test (ev_op (ev_var rfl) (ev_op (ev_var rfl) (ev_op (y := .int 1) (x := .int (c.length : Int)) (fun H0 e0 Q0 q0 => ⟨_, rfl, ?_⟩) ev_c rv_I0) (rv_ixT (SqT.of ho8) (at_of (show (c.length : Int) - 1 = ((c.length - 1 : Nat) : Int) by omega) (lastI_at cne)))) rv_I0)
            exact ⟨_, (c.map V.int).length, rfl, .inr ⟨_, SqT.of (e0 _ _ ho8), rfl⟩, by rw [List.length_map]; exact q0 H0 (Ex.refl _)⟩
          · rw [List.length_map] at hi
            have hz : left[i]? = some left[i] := List.getElem?_eq_getElem hi
            have eg : left.getD i 0 = left[i] := by rw [List.getD_eq_getElem?_getD, hz]; rfl
            rw [eg] at hf
            rw [filter_take hz, if_neg (by rw [hf]; decide), List.append_nil]
            exact r
          · obtain ⟨z, hz, rfl⟩ := ints_get hx
            have eg : left.getD i 0 = z := by rw [List.getD_eq_getElem?_getD, hz]; rfl
            rw [eg] at hf
            refine ev_snocT (ev_var rfl) (e8 _ _ ho) (by rw [List.length_map]; omega) (ev_var rfl) fun p G9 e9 hp => k' _ G9 e9 fun G10 us e10 r => ?_
            rw [filter_take hz, if_pos hf, List.map_append]
            refine r.snoc (e10 _ _ ?_)
            rw [List.map_append]
            exact hp
          · rw [List.length_map, List.take_length] at rD
            have hM8 := e8 _ _ hM7
            have l1 := rM.1
            have l2 := rD.1
            refine ⟨M, D, ws, ds, rfl, rfl, hM8, hDv, sz_of (by omega), (e57.trans e8).mut hM, ws ++ ds, _, rfl, upd_same, ?_⟩
            exact ((rM.ex e8).app rD).mut hM8
        · rintro σ G7 ⟨e57, ws, v11, rfl, hM7, rM⟩
          rw [rS.1, List.take_length, nx] at rM
          exact s_asg (ev_var rfl) fun G8 e8 => ⟨(e45.trans e57).trans e8, M, ws, _, _, _, _, rfl, e8 _ _ hM7, rM.ex e8, .inl rfl⟩
      · rintro σ G5 ⟨e45, Sp, zs, sub, v9, v10, v11, rfl, hSp, rS, sb⟩
        have sbe : sub = subsL left s.toNat := by
          rcases sb with h | ⟨h, _⟩
          · exact h
          · omega
        rw [← sbe] at lt ⊢
        have e25 := e25'.trans e45
        have hL5 := e25 _ _ hL2
        have ht5 := e25 _ _ hr2
        have rt5 := rt2.ex e25
        have rSl := rS.1
        have hR5 := e45 _ _ hR5'
        rw [List.length_map] at lt
        refine ⟨_, rfl, .inl ⟨rfl, _, SqL.of hL5⟩, ?_⟩
        refine el_newD (K := K) (a := Sp) (xs := zs) (j := 11) (fun D i G ys => RowsP (fun a => a ≠ D ∧ a ≠ L) G ys ((sub.take i).map fun c => (rs ++ [c], behindI left c 0))) ⟨fun D i H1 H2 ys e r => r.ex e, fun D i H1 us zs ys h r => r.mut h fun a ha => ha.1⟩ (ev_var rfl) (SqL.of hSp) (by omega) (fun _ => rfl) (fun i x G8 e8 hx G9 e9 Q' k' => k' G9 (Ex.refl _)) (fun D G8 _ => by rw [List.take_zero]; exact RowsP.nil) (fun i x D dus G8 e8 hDd hx Q' k' => ?_) (Ex.refl G5) _ fun D ds G8 hD e8 hDv rD => ?_
        · have hi := (List.getElem?_eq_some_iff.mp hx).1
          have hc : sub[i]? = some (sub[i]'(by rw [← rS.1]; exact hi)) := List.getElem?_eq_getElem _
          obtain ⟨o, rfl, ho⟩ := (rS.ex e8).2 i x _ hx hc
          have tk2 : sub.take (i + 1) = sub.take i ++ [sub[i]'(by rw [← rS.1]; exact hi)] := by rw [List.take_add_one, hc]; rfl
          rw [tk2] at k'
          generalize sub[i]'(by rw [← rS.1]; exact hi) = c at ho k'
          refine ev_snocT (ev_var rfl) (e8 _ _ ht5) (by rw [rt5.1]; omega) (ev_var rfl) fun p G9 e9 hp => ?_
          refine (el_flt (K := K) (a := R) (ls := left) (tl := tVar 7) (j := 12) (vs := [12]) (t := tTest (tOp (rIn K true) (tVar 12) (tVar 11))) (fun z => !decide (z ∈ c)) (ev_var rfl) (SqL.of ((e8.trans e9) _ _ hR5)) (by omega) (fun _ => rfl) (fun _ => rfl) (fun z G10 e10 hz => et_is (et_test (ev_op (ev_var rfl) (ev_var rfl) (rv_niT (SqT.of ((e9.trans e10) _ _ ho)) rfl flat_ints))) (by rw [inV_ints]))) G9 (Ex.refl _) _ fun w G10 hw e10 hwv => ⟨two_le, fun tu htu => ?_⟩
          have e11 := Ex.new (o := .tup [.ref p, .ref w]) htu
          refine k' _ _ ((e9.trans e10).trans e11) fun G12 us' e12 rr => ?_
          rw [List.map_append]
          refine rr.app (RowsP.one (e12 _ _ upd_same) (e12 _ _ (e11 _ _ (e10 _ _ hp))) (((rt5.ex ((e8.trans e9).trans (e10.trans (e11.trans e12)))).snoc ((e9.trans (e10.trans (e11.trans e12))) _ _ ho))) (e12 _ _ (e11 _ _ hwv)) ⟨ne_of_none' (e9 _ _ hDd) hw, ne_of_none' ((e8.trans e9) _ _ hL5) hw⟩)
        · rw [rSl, List.take_length] at rD
          have hL8 := e8 _ _ hL5
          have l1 := rL.1
          have l2 := rD.1
          rw [List.length_map] at l2
          refine ⟨L, D, ys, ds, rfl, rfl, hL8, hDv, sz_of (by omega), ((eg2.trans e25).trans e8).mut hL, ys ++ ds, _, _, _, _, _, _, _, rfl, upd_same, ?_⟩
          exact (((rL.ex e25).ex e8).app (rD.of fun a ha => ha.2)).mut hL8 fun a ha => ha
    · rintro σ G2 ⟨eg2, ys, v5, v6, v7, v8, v9, v10, v11, rfl, hL2, rL⟩
      rw [rF.1, List.take_length] at rL
      exact s_asg (ev_var rfl) fun G3 e3 => ⟨(eg.trans eg2).trans e3, L, ys, _, _, _, _, _, _, _, _, _, rfl, e3 _ _ hL2, (rL.ex e3).of fun _ _ => trivial⟩
  · rintro σ G ⟨eg, Fp, xs, v3, v4, v5, v6, v7, v8, v9, v10, v11, rfl, hF1, rF⟩
    have en : ss.take ((ss.length : Int)).toNat = ss := List.take_of_length_le (by omega)
    rw [en] at rF
    have tot := accF_len kk.so k6 s1
    refine ret_firsts (K := K) hF1 rF (by rw [rF.1]; omega) fun D ys G1 hD e1 hDv rD => ?_
    obtain ⟨so1, so2⟩ := rD.sort (acc_sorted kk.so) (acc_ne kk.so kk.l s1)
    refine ⟨D, ys, keyTT G1, rfl, SqL.of hDv, so1, so2, fun p hp => ?_⟩
    exact q p ys _ ((eg.trans e1).trans (Ex.new hp)) upd_same (rD.ex (Ex.new hp))
end
end L2.U


set_option Elab.async false
set_option linter.all false
set_option maxRecDepth 100000
set_option maxHeartbeats 4000000
namespace L2.U
open PySem PySem.Spec PyProof.Rows Evl

section
variable {P : Program} {w : World} {K : PySem.W.Frag} {mg : Str → Option Value} {base : Heap}
/-- what never raises -/
theorem fn_calm {k : Nat} {f : Addr} {fd : FuncData} {ps : List Str} {sp sp' : Sp} (F : FnOk P w K mg base (L2.CX P w) k f fd ps sp) (h : ∀ vs H Q E, sp' vs H Q E → sp vs H Q E0) : FnOk P w K mg base CX0 k f fd ps sp' := by
  refine ⟨fun vs H Q E q => F.len vs H Q E0 (h _ _ _ _ q), fun A outer s H args us vs Q E hr he hb hv hs => codeAny_mono (F.run A outer s H args us vs Q E0 hr he hb hv (h _ _ _ _ hs)) fun r s' hq => ?_⟩
  cases r with
  | error e =>
    obtain ⟨_, _, _, _, _, _, _, _, _, _, _, _, hE⟩ := hq
    exact hE.elim
  | ok fl => cases fl <;> exact hq
theorem num16_ok {c : Nat} (h : c ≤ 16) : num16 (.int (c : Int)) = true := decide_eq_true ⟨by omega, by omega⟩
theorem no_way {p : Prop} {b : Bool} (h : b = true) (g : b = false) : p := by rw [h] at g; cases g
def spManyC (K : PySem.W.Frag) : Sp := fun vs H Q _ => ∃ (c : Nat) (a : Addr) (ns : List Int), vs = [.int (c : Int), .ref a] ∧ SqI H a ns ∧ c ≤ 16 ∧ SOK ns ∧ ∀ H', Ex H H' → Q (.int (manyI (c : Int) ns 1)) H'
theorem okc_many_raised (T : TK K mg) : FnOk P w K mg base CX0 7 T.many_raised.a T.many_raised.fd ["count", "sizes"] (spManyC K) := fn_calm (ok_many_raised T.toTA2) fun vs H Q E h => by
  obtain ⟨c, a, ns, rfl, ha, hc, sk, q⟩ := h
  have l := sk.l
  obtain ⟨d, sd, rd⟩ := ha.rd (K := K) (n := 0) (by omega)
  have e := seqd_nums sd
  refine ⟨_, _, _, d, 1, _, rfl, .inl (.int _), .inl rd, fun _ _ H' ex => ?_, fun z => no_way (num16_ok hc) z, fun _ z => no_way (sizes_ok sd sk) z⟩
  rw [e]
  exact q H' ex
inductive AskT (K : PySem.W.Frag) (ok : Addr → Prop) (H : Hp) (n : Nat) (Q : VK) : Int → List V → Prop
  | many {x y : V} {c : Nat} {d : PyData} {ns : List Int} (rx : Rd K ok H n x (.int (c : Int))) (ry : Rd K ok H n y d) (hc : c ≤ 16) (sd : SeqD d ns) (sk : SOK ns)
      (q : ∀ t H', Ex H H' → H' t = some (.tup [.str "done", .int (manyI (c : Int) ns 1)]) → Q (.ref t) H') : AskT K ok H n Q 0 [x, y]
  | rank {x y : V} {rs : List (List Int)} {d : PyData} {ks : List Int} (rx : Rd K ok H n x (rowsD rs)) (ry : Rd K ok H n y d) (sd : SeqD d ks) (kk : KOK ks) (ch : ChR ks rs)
      (q : ∀ t H', Ex H H' → H' t = some (.tup [.str "done", .int (rnkP ks rs)]) → Q (.ref t) H') : AskT K ok H n Q 2 [x, y]
  | answers {x y : V} {rs : List (List Int)} {d : PyData} {ks : List Int} (rx : Rd K ok H n x (rowsD rs)) (ry : Rd K ok H n y d) (sd : SeqD d ks) (kk : KOK ks) (ch : ChR ks rs)
      (q : ∀ p t H', Ex H H' → H' p = some (.tup ((ansI ks rs).map V.int)) → H' t = some (.tup [.str "done", .ref p]) → Q (.ref t) H') : AskT K ok H n Q 3 [x, y]
  | rounds {x y z : V} {i : Int} {d e : PyData} {ks ns : List Int} (rx : Rd K ok H n x (.int i)) (ry : Rd K ok H n y d) (rz : Rd K ok H n z e) (sd : SeqD d ks) (kk : KOK ks) (se : SeqD e ns) (sk : SOK ns)
      (q1 : 0 ≤ i → i < manyI (ks.length : Int) ns 1 → ∀ p xs t H', Ex H H' → H' p = some (.tup xs) → RowsT H' xs (rndA 1 ks ns i) → H' t = some (.tup [.str "done", .ref p]) → Q (.ref t) H')
      (q2 : ¬ (0 ≤ i ∧ i < manyI (ks.length : Int) ns 1) → ∀ t H', Ex H H' → H' t = some (.tup [.str "rank", .int i]) → Q (.ref t) H') : AskT K ok H n Q 1 [x, y, z]
def spLTold (K : PySem.W.Frag) : Sp := fun vs H Q _ => ∃ (kind named : Int) (p : Addr) (ys : List V) (n : Nat) (ok : Addr → Prop), vs = [.int kind, .int named, .ref p] ∧ SqL K H p ys ∧ n ≤ 19 ∧ AskT K ok H n Q kind ys
theorem ok_law_told (T : TK K mg) : FnOk P w K mg base CX0 8 T.law_told.a T.law_told.fd ["kind", "named", "passed"] (spLTold K) := by
  refine T.law_told.F.ok sc_law_told (fun vs H Q E h => ?_) (fun cdv A outer s H vs Q E hr h => ?_)
  · obtain ⟨kind, named, p, ys, n, ok, rfl, _⟩ := h; rfl
  obtain ⟨kind, named, p, ys, n, ok, rfl, hL, hn, ask⟩ := h
  refine ⟨_, (pss_one (ps_tryC rfl rfl takes0 (fun W pn xe tk _ => (pss_cons (ps_if (pt_cmpR op_eq (pv 0) pe_int (nomark _)) (pss_one (ps_ret (pe_tup (pa_cons pe_str (pa_cons (pe_ifExp (pt_cmpR op_eq (pv 1) pe_int (nomark _)) (by exact (pe_callS (ok_many_raised T.toTA2) (hr.mono (by decide)) rfl T.many_raised.m T.many_raised.F.kp T.many_raised.b (fun σ => passAt tk σ) (pa_cons (pe_ix (kixl K) (pv 2) pe_int (fun _ _ => rfl)) (pa_cons (pe_ix (kixl K) (pv 2) pe_int (fun _ _ => rfl)) pa_nil)))) (by exact (pe_callKw (ok_many_raised T.toTA2) (hr.mono (by decide)) rfl T.many_raised.m T.many_raised.F.kp T.kb_many_raised_sizes_count (fun σ => passAt tk σ) (pk_cons (pe_ix (kixl K) (pv 2) pe_int (fun _ _ => rfl)) (pk_cons (pe_ix (kixl K) (pv 2) pe_int (fun _ _ => rfl)) pk_nil))))) pa_nil))))) pss_nil)
    (pss_cons (ps_if (pt_cmpR op_eq (pv 0) pe_int (nomark _)) (pss_cons (ps_if (pt_cmpR op_eq (pv 1) pe_int (nomark _)) (pss_one (ps_ret (pe_tup (pa_cons pe_str (pa_cons (by exact (pe_callS (ok_raised_of T.toTA2) (hr.mono (by decide)) rfl T.raised_of.m T.raised_of.F.kp T.raised_of.b (fun σ => passAt tk σ) (pa_cons (pe_ix (kixl K) (pv 2) pe_int (fun _ _ => rfl)) (pa_cons (pe_ix (kixl K) (pv 2) pe_int (fun _ _ => rfl)) (pa_cons (pe_ix (kixl K) (pv 2) pe_int (fun _ _ => rfl)) pa_nil))))) pa_nil))))) pss_nil)
    (pss_one (ps_ret (pe_tup (pa_cons pe_str (pa_cons (by exact (pe_callKw (ok_raised_of T.toTA2) (hr.mono (by decide)) rfl T.raised_of.m T.raised_of.F.kp T.kb_raised_of_wires_sizes_rank (fun σ => passAt tk σ) (pk_cons (pe_ix (kixl K) (pv 2) pe_int (fun _ _ => rfl)) (pk_cons (pe_ix (kixl K) (pv 2) pe_int (fun _ _ => rfl)) (pk_cons (pe_ix (kixl K) (pv 2) pe_int (fun _ _ => rfl)) pk_nil))))) pa_nil)))))) pss_nil)
    (pss_cons (ps_if (pt_cmpR op_eq (pv 0) pe_int (nomark _)) (pss_one (ps_ret (pe_tup (pa_cons pe_str (pa_cons (pe_ifExp (pt_cmpR op_eq (pv 1) pe_int (nomark _)) (by exact (pe_callS (ok_raised_rank T.toTA2) (hr.mono (by decide)) rfl T.raised_rank.m T.raised_rank.F.kp T.raised_rank.b (fun σ => passAt tk σ) (pa_cons (pe_ix (kixl K) (pv 2) pe_int (fun _ _ => rfl)) (pa_cons (pe_ix (kixl K) (pv 2) pe_int (fun _ _ => rfl)) pa_nil)))) (by exact (pe_callKw (ok_raised_rank T.toTA2) (hr.mono (by decide)) rfl T.raised_rank.m T.raised_rank.F.kp T.kb_raised_rank_wires_rounds (fun σ => passAt tk σ) (pk_cons (pe_ix (kixl K) (pv 2) pe_int (fun _ _ => rfl)) (pk_cons (pe_ix (kixl K) (pv 2) pe_int (fun _ _ => rfl)) pk_nil))))) pa_nil))))) pss_nil)
    (pss_one (ps_ret (pe_tup (pa_cons pe_str (pa_cons (pe_ifExp (pt_cmpR op_eq (pv 1) pe_int (nomark _)) (by exact (pe_callS (ok_answers_of T.toTA2) (hr.mono (by decide)) rfl T.answers_of.m T.answers_of.F.kp T.answers_of.b (fun σ => passAt tk σ) (pa_cons (pe_ix (kixl K) (pv 2) pe_int (fun _ _ => rfl)) (pa_cons (pe_ix (kixl K) (pv 2) pe_int (fun _ _ => rfl)) pa_nil)))) (by exact (pe_callKw (ok_answers_of T.toTA2) (hr.mono (by decide)) rfl T.answers_of.m T.answers_of.F.kp T.kb_answers_of_wires_rounds (fun σ => passAt tk σ) (pk_cons (pe_ix (kixl K) (pv 2) pe_int (fun _ _ => rfl)) (pk_cons (pe_ix (kixl K) (pv 2) pe_int (fun _ _ => rfl)) pk_nil))))) pa_nil))))))))) (ClausesOk.cons (ClauseOk.named (i := 3) sc_law_told.nd rfl rfl ⟨rfl, by decide, Or.inl T.InvalidRank.gC⟩ (fun a oe cls d pn hz hf => (pss_one (ps_ret (pe_tup (pa_cons pe_str (pa_cons (pe_xf T.InvalidRank.xf T.InvalidRank.nf hz hf (pv 3)) pa_nil)))))))
     (ClausesOk.cons (ClauseOk.bare ⟨rfl, by decide, Or.inl T.TalkError_gC⟩ (fun a oe cls d pn hz hf => (pss_one (ps_ret (pe_tup (pa_cons pe_str (pa_cons pe_non pa_nil)))))))
     ClausesOk.nil)))), ?_⟩
  cases ask with
  | @many x y c d ns rx ry hc sd sk q =>
    refine ⟨_, rfl, rfl, _, rfl, iteT ⟨_, rfl, rfl, _, rfl, ite2 (fun _ => ?_) (fun _ => ?_)⟩⟩
    all_goals
      refine ⟨_, rfl, _, _, _, _, rfl, rfl, hL, rfl, _, rfl, _, _, _, _, rfl, rfl, hL, rfl, x, y, _, d, n, ok, rfl, .inl rx, .inl ry, fun _ _ H1 e1 => ?_, fun z => no_way (num16_ok hc) z, fun _ z => no_way (sizes_ok sd sk) z⟩
      rw [seqd_nums sd]
      exact ⟨two_le, fun t ht => q t _ (e1.trans (Ex.new ht)) upd_same⟩
  | @rank x y rs d ks rx ry sd kk ch q =>
    have ec : ((itemsD (rowsD rs)).map intsOf) = rs := rows_back
    have er : rnkA 1 ks rs 0 = rnkP ks rs := by rw [rnkA_eq rs ks 0 kk.nd ch]; omega
    refine ⟨_, rfl, rfl, _, rfl, iteF ⟨_, rfl, rfl, _, rfl, iteF ⟨_, rfl, rfl, _, rfl, iteT ⟨_, rfl, rfl, _, rfl, ite2 (fun _ => ?_) (fun _ => ?_)⟩⟩⟩⟩
    all_goals
      refine ⟨_, rfl, _, _, _, _, rfl, rfl, hL, rfl, _, rfl, _, _, _, _, rfl, rfl, hL, rfl, x, y, _, d, n, ok, rfl, .inl rx, .inl ry, by omega, fun _ _ H1 e1 => ?_, fun z => no_way (kinds_ok sd kk) z, fun _ z => no_way (by rw [seqd_nums sd]; exact rounds_ok kk.so ch) z⟩
      rw [seqd_nums sd, ec, er]
      exact ⟨two_le, fun t ht => q t _ (e1.trans (Ex.new ht)) upd_same⟩
  | @answers x y rs d ks rx ry sd kk ch q =>
    have ec : ((itemsD (rowsD rs)).map intsOf) = rs := rows_back
    refine ⟨_, rfl, rfl, _, rfl, iteF ⟨_, rfl, rfl, _, rfl, iteF ⟨_, rfl, rfl, _, rfl, iteF ⟨_, rfl, rfl, _, rfl, ite2 (fun _ => ?_) (fun _ => ?_)⟩⟩⟩⟩
    all_goals
      refine ⟨_, rfl, _, _, _, _, rfl, rfl, hL, rfl, _, rfl, _, _, _, _, rfl, rfl, hL, rfl, x, y, _, d, n, ok, rfl, .inl rx, .inl ry, by omega, fun _ _ p H1 e1 hp => ?_, fun z => no_way (kinds_ok sd kk) z, fun _ z => no_way (by rw [seqd_nums sd]; exact rounds_ok kk.so ch) z⟩
      rw [seqd_nums sd, ec] at hp
      exact ⟨two_le, fun t ht => q p t _ (e1.trans (Ex.new ht)) ((Ex.new ht) _ _ hp) upd_same⟩
  | @rounds x y z i d e ks ns rx ry rz sd kk se sk q1 q2 =>
    have rk : rankD 1 (.int i) d e = decide (0 ≤ i ∧ i ≤ manyI (ks.length : Int) ns 1 - 1) := by
      unfold rankD
      rw [seqd_nums sd, seqd_nums se]
      rfl
    have hx : x = .int i := by cases rx; rfl
    refine ⟨_, rfl, rfl, _, rfl, iteF ⟨_, rfl, rfl, _, rfl, iteT ⟨_, rfl, rfl, _, rfl, ite2 (fun _ => ?_) (fun _ => ?_)⟩⟩⟩
    all_goals
      refine ⟨_, rfl, _, _, _, _, rfl, rfl, hL, rfl, _, rfl, _, _, _, _, rfl, rfl, hL, rfl, _, rfl, _, _, _, _, rfl, rfl, hL, rfl, x, y, z, _, d, e, n, ok, rfl, .inl rx, .inl ry, .inl rz, fun _ _ c p xs H1 e1 hp hr => ?_, fun c => no_way (kinds_ok sd kk) c, fun _ c => no_way (sizes_ok se sk) c, fun _ _ c dd H1 e1 hd => ?_⟩
      · rw [rk] at c
        have c := of_decide_eq_true c
        rw [seqd_nums sd, seqd_nums se] at hr
        exact ⟨two_le, fun t ht => q1 c.1 (by omega) p xs t _ (e1.trans (Ex.new ht)) ((Ex.new ht) _ _ hp) (hr.ex (Ex.new ht)) upd_same⟩
      · rw [rk] at c
        have c := of_decide_eq_false c
        rw [hx] at hd
        exact ⟨true, T.eRR, fun _ u hu => ⟨_, rfl, rfl, rfl, dd, _, _, rfl, hd, rfl, two_le, fun t ht => q2 (fun h => c ⟨h.1, by omega⟩) t _ (e1.trans (Ex.new ht)) upd_same⟩, fun z => nomatch z⟩
end
end L2.U


set_option Elab.async false
set_option linter.all false
set_option maxRecDepth 100000
set_option maxHeartbeats 4000000
namespace L2.U
open PySem PySem.Spec PyProof.Rows Evl

section
variable {P : Program} {w : World} {K : PySem.W.Frag} {mg : Str → Option Value} {base : Heap}
theorem SqI.rdw {ok : Addr → Prop} {H : Hp} {a : Addr} {ns : List Int} {n : Nat} (w : ∀ a o, H a = some o → ok a) (h : SqI H a ns) (l : ns.length ≤ 900) : ∃ d, SeqD d ns ∧ Rd K ok H (n + 1) (.ref a) d := by
  have r := rdl_ints (K := K) (ok := ok) (H := H) (n := n) ns
  rcases h with h | h
  · exact ⟨_, .inl rfl, .lst h (w _ _ h) r.1 (by rw [List.length_map]; omega) r.2⟩
  · exact ⟨_, .inr rfl, .tup (SqT.of h) (w _ _ h) r.1 (by rw [List.length_map]; omega) r.2⟩
theorem rd_rowsw {ok : Addr → Prop} {H : Hp} {p : Addr} {xs : List V} {rs : List (List Int)} {n : Nat} (w : ∀ a o, H a = some o → ok a) (h : H p = some (.tup xs)) (r : RowsT H xs rs) (l : rs.length ≤ 900) (lc : ∀ c ∈ rs, c.length ≤ 900) : Rd K ok H (n + 2) (.ref p) (rowsD rs) := by
  refine .tup (SqT.of h) (w _ _ h) (by rw [List.length_map]; exact r.1) (by rw [r.1]; exact l) fun i x d hx hd => ?_
  rw [List.getElem?_map, Option.map_eq_some_iff] at hd
  obtain ⟨c, hc, rfl⟩ := hd
  obtain ⟨q, rfl, hq⟩ := r.2 i x c hx hc
  have r2 := rdl_ints (K := K) (ok := ok) (H := H) (n := n) c
  exact .tup (SqT.of hq) (w _ _ hq) r2.1 (by rw [List.length_map]; exact lc c (List.mem_of_getElem? hc)) r2.2
theorem rdl2 {ok : Addr → Prop} {H : Hp} {n : Nat} {x y : V} {d e : PyData} (h1 : Rd K ok H n x d) (h2 : Rd K ok H n y e) : RdL K ok H n [x, y] [d, e] := ⟨rfl, fun i u f hu hf => by
  match i, hu, hf with
  | 0, hu, hf => cases Option.some.inj hu; cases Option.some.inj hf; exact h1
  | 1, hu, hf => cases Option.some.inj hu; cases Option.some.inj hf; exact h2⟩
theorem rdl3 {ok : Addr → Prop} {H : Hp} {n : Nat} {x y z : V} {d e g : PyData} (h1 : Rd K ok H n x d) (h2 : Rd K ok H n y e) (h3 : Rd K ok H n z g) : RdL K ok H n [x, y, z] [d, e, g] := ⟨rfl, fun i u f hu hf => by
  match i, hu, hf with
  | 0, hu, hf => cases Option.some.inj hu; cases Option.some.inj hf; exact h1
  | 1, hu, hf => cases Option.some.inj hu; cases Option.some.inj hf; exact h2
  | 2, hu, hf => cases Option.some.inj hu; cases Option.some.inj hf; exact h3⟩
/-- a question and its data -/
inductive AskB (H : Hp) : Int → List V → List PyData → Prop
  | many {c : Nat} {a : Addr} {ns : List Int} {d : PyData} (hc : c ≤ 16) (h : SqI H a ns) (s : SOK ns) (sd : SeqD d ns) : AskB H 0 [.int (c : Int), .ref a] [.int (c : Int), d]
  | rank {kind : Int} (hk : kind = 2 ∨ kind = 3) {r a : Addr} {ys : List V} {rs : List (List Int)} {ks : List Int} {d : PyData} (hr : H r = some (.tup ys)) (rw_ : RowsT H ys rs) (h : SqI H a ks) (k : KOK ks) (ch : ChR ks rs) (sd : SeqD d ks) : AskB H kind [.ref r, .ref a] [rowsD rs, d]
  | rounds {i : Int} {a b : Addr} {ks ns : List Int} {d e : PyData} (h : SqI H a ks) (k : KOK ks) (h2 : SqI H b ns) (s : SOK ns) (sd : SeqD d ks) (se : SeqD e ns) : AskB H 1 [.int i, .ref a, .ref b] [.int i, d, e]
theorem AskQ.data {ok : Addr → Prop} {H : Hp} {kind : Int} {xs : List V} (q : AskQ ok H kind xs) : ∃ ds, AskB H kind xs ds ∧ RdL K (fun a => H a ≠ none) H 3 xs ds := by
  have w : ∀ a o, H a = some o → H a ≠ none := fun a o h z => by rw [h] at z; cases z
  cases q with
  | many hc h o s =>
    obtain ⟨d, sd, rd⟩ := h.rdw (K := K) (n := 2) w (by have := s.l; omega)
    exact ⟨_, .many hc h s sd, rdl2 (.int _) rd⟩
  | rank hk hr rw_ h o k ch =>
    obtain ⟨d, sd, rd⟩ := h.rdw (K := K) (n := 2) w (by have := k.l; omega)
    obtain ⟨l1, l2⟩ := chr_len _ _ k.nd ch
    have l := k.l
    exact ⟨_, .rank hk hr rw_ h k ch sd, rdl2 (rd_rowsw (n := 1) w hr rw_ (by omega) fun c hc => by have := l2 c hc; omega) rd⟩
  | rounds h o k h2 o2 s =>
    obtain ⟨d, sd, rd⟩ := h.rdw (K := K) (n := 2) w (by have := k.l; omega)
    obtain ⟨e, se, re⟩ := h2.rdw (K := K) (n := 2) w (by have := s.l; omega)
    exact ⟨_, .rounds h k h2 s sd se, rdl3 (.int _) rd re⟩
theorem AskB.len {H : Hp} {kind : Int} {xs : List V} {ds : List PyData} (q : AskB H kind xs ds) : xs.length ≤ 3 := by
  cases q with
  | many => show 2 ≤ 3; decide
  | rank _ => show 2 ≤ 3; decide
  | rounds => show 3 ≤ 3; decide
theorem RdL.snoc {ok : Addr → Prop} {H : Hp} {n : Nat} {xs : List V} {ds : List PyData} {x : V} {d : PyData} (h : RdL K ok H n xs ds) (r : Rd K ok H n x d) : RdL K ok H n (xs ++ [x]) (ds ++ [d]) := by
  refine ⟨by rw [List.length_append, List.length_append, h.1]; rfl, fun i y e hy he => ?_⟩
  rcases app_get hy with ⟨c, h1⟩ | ⟨c, h1⟩
  · rw [List.getElem?_append_left (by rw [← h.1]; exact c)] at he
    exact h.2 i y e h1 he
  · rw [List.getElem?_append_right (by rw [← h.1]; exact c)] at he
    have hi := (List.getElem?_eq_some_iff.mp h1).1
    have hi' : i - xs.length < 1 := hi
    have e1 : i - xs.length = 0 := by omega
    have e2 : i - ds.length = 0 := by rw [← h.1]; exact e1
    rw [e1] at h1
    rw [e2] at he
    cases Option.some.inj h1
    cases Option.some.inj he
    exact r
/-- the copies: each list anew -/
theorem el_copies {tl : TE} {σ : L2.St} {H : Hp} {vt : Addr} {xs : List V} {ds : List PyData} (h : Ev tl σ H (.ref vt)) (hx : H vt = some (.tup xs)) (hl : xs.length ≤ 3) (rd : RdL K (fun a => H a ≠ none) H 3 xs ds)
    (hw : ∀ x, wipe ((wipe σ [8]).set 8 (some x)) [8] = wipe σ [8]) (hv : ∀ x, ((wipe σ [8]).set 8 (some x))[8]? = some (some x)) (Q : VK) (q : ∀ D ys H1, H D = none → Ex H H1 → H1 D = some (.lst ys) → RdL K (fun a => a ≠ D) H1 3 ys ds → Q (.ref D) H1) :
    tLc (iTup K tl) (gName 8) tYes (tIf (tB (tCB (rIsi K) (tCons (tVar 8) (tCons (tC (.ty "list")) tNil)))) (tCB (rListOf K) (tCons (tVar 8) tNil)) (tVar 8)) [8] σ H Q := by
  refine h H (Ex.refl _) _ fun H1 e1 => ⟨vt, rfl, ⟨xs, ex_t e1 (SqT.of hx)⟩, fun D hD => ?_⟩
  have hD0 : H D = none := fresh_back e1 hD
  refine lc_tup (xs := xs) (fun i H' => Ex H1 H' ∧ ∃ ys, H' D = some (.lst ys) ∧ RdL K (fun a => a ≠ D) H' 3 ys (ds.take i)) ⟨Ex.new hD, [], upd_same, by rw [List.take_zero]; exact ⟨rfl, fun i x d hx _ => by cases hx⟩⟩ (fun i H' _ p => ex_t (e1.trans p.1) (SqT.of hx)) ?_ ?_
  · rintro i x H' hi ⟨e2, ys, hy, r⟩
    have hlt := (List.getElem?_eq_some_iff.mp hi).1
    have hd : ds[i]? = some (ds[i]'(by rw [← rd.1]; exact hlt)) := List.getElem?_eq_getElem _
    have rx := (rd.2 i x _ hi hd).ex (e1.trans e2)
    have tk : ds.take (i + 1) = ds.take i ++ [ds[i]'(by rw [← rd.1]; exact hlt)] := by rw [List.take_add_one, hd]; rfl
    have yl : ys.length ≤ 3 := by rw [r.1, List.length_take]; omega
    have w : ∀ a, H a ≠ none → a ≠ D := fun a ha z => ha (z ▸ hD0)
    have fin : ∀ (z : V) (H2 : Hp), Ex H' H2 → Rd K (fun a => a ≠ D) H2 3 z (ds[i]'(by rw [← rd.1]; exact hlt)) → ∃ acc, H2 D = some (.lst acc) ∧ acc.length < sizeLine ∧
        (Ex H1 (upd H2 D (.lst (acc ++ [z]))) ∧ ∃ ys, (upd H2 D (.lst (acc ++ [z]))) D = some (.lst ys) ∧ RdL K (fun a => a ≠ D) (upd H2 D (.lst (acc ++ [z]))) 3 ys (ds.take (i + 1))) := by
      intro z H2 ez rz
      refine ⟨ys, ez _ _ hy, sz_lt (by omega), (e2.trans ez).mut hD, ys ++ [z], upd_same, ?_⟩
      rw [tk]
      exact ((r.ex ez).snoc rz).but But.upd fun a ha => ha
    refine ⟨hw x, ?_⟩
    show tIf (tB (tCB (rIsi K) (tCons (tVar 8) (tCons (tC (.ty "list")) tNil)))) (tCB (rListOf K) (tCons (tVar 8) tNil)) (tVar 8) _ H' _
    have hvx : ((wipe σ [8]).set 8 (some x))[8]? = some (some x) := hv x
    have keep : ∀ {ty : String}, TyX K H' x (.type ty) → kitB ty "list" = some false → tIf (tB (tCB (rIsi K) (tCons (tVar 8) (tCons (tC (.ty "list")) tNil)))) (tCB (rListOf K) (tCons (tVar 8) tNil)) (tVar 8) ((wipe σ [8]).set 8 (some x)) H' (fun y H4 => ∃ acc, H4 D = some (.lst acc) ∧ acc.length < sizeLine ∧
        (Ex H1 (upd H4 D (.lst (acc ++ [y]))) ∧ ∃ ys, (upd H4 D (.lst (acc ++ [y]))) D = some (.lst ys) ∧ RdL K (fun a => a ≠ D) (upd H4 D (.lst (acc ++ [y]))) 3 ys (ds.take (i + 1)))) := fun ht hk =>
      ⟨_, hvx, _, _, _, _, false, rfl, .ty _, ht, kit_ty hk, ⟨_, rfl, iteF ⟨_, hvx, fin _ H' (Ex.refl _) (rx.of w)⟩⟩⟩
    have rx2 := rx
    generalize ds[i]'(by rw [← rd.1]; exact hlt) = d at rx rx2 fin
    cases rx with
    | non => exact keep (ty := "NoneType") (.base .non) (by decide +kernel)
    | bl c => exact keep (ty := "bool") (.base (.bl c)) (by decide +kernel)
    | int c => exact keep (ty := "int") (.base (.int c)) (by decide +kernel)
    | str c _ _ => exact keep (ty := "str") (.base (.str c)) (by decide +kernel)
    | tup h1 => exact keep (ty := "tuple") (tyT h1) (by decide +kernel)
    | @lst n a us es h1 ha hl1 hz all =>
      refine ⟨_, hvx, _, _, _, _, true, rfl, .ty _, tyL (SqL.of h1), kit_ty (by decide +kernel), ⟨_, rfl, iteT ⟨_, hvx, a, _, rfl, .inl (SqL.of h1), fun l hl2 => fin _ _ (Ex.new hl2) ?_⟩⟩⟩
      exact .lst upd_same (ne_new hl2 hy) hl1 hz fun k u f hu hf => ((all k u f hu hf).ex (Ex.new hl2)).of w
  · rintro H' ⟨e2, ys, hy, r⟩
    rw [rd.1, List.take_length] at r
    exact q D ys H' hD0 (e1.trans e2) hy r
end
end L2.U


set_option Elab.async false
set_option linter.all false
set_option maxRecDepth 100000
set_option maxHeartbeats 4000000
namespace L2.U
open PySem PySem.Spec PyProof.Rows Evl

section
variable {P : Program} {w : World} {K : PySem.W.Frag} {mg : Str → Option Value} {base : Heap}
theorem q_copies {tl : TE} {σ : L2.St} {H : Hp} {vt : Addr} {xs : List V} {ds : List PyData} {rest : TS} {D : Ends} (h : Ev tl σ H (.ref vt)) (hx : H vt = some (.tup xs)) (hl : xs.length ≤ 3) (rd : RdL K (fun a => H a ≠ none) H 3 xs ds)
    (hw : ∀ x, wipe ((wipe σ [8]).set 8 (some x)) [8] = wipe σ [8]) (hv : ∀ x, ((wipe σ [8]).set 8 (some x))[8]? = some (some x)) (q : ∀ L ys H1, H L = none → Ex H H1 → H1 L = some (.lst ys) → RdL K (fun a => a ≠ L) H1 3 ys ds → rest D (σ.set 3 (some (.ref L))) H1) :
    tSeq (tAsg (tLc (iTup K tl) (gName 8) tYes (tIf (tB (tCB (rIsi K) (tCons (tVar 8) (tCons (tC (.ty "list")) tNil)))) (tCB (rListOf K) (tCons (tVar 8) tNil)) (tVar 8)) [8]) (gName 3)) rest D σ H := el_copies h hx hl rd hw hv (fun v H' => rest D (σ.set 3 (some v)) H') q
theorem sm_pair {H : Hp} {a b : Addr} {n : Nat} {s : Str} {x y : V} (h1 : SqT K H a [.str s, x]) (h2 : SqT K H b [.str s, y]) (hs : s.length ≤ 1000) (h : Sm K H n x y) : Sm K H (n + 1) (.ref a) (.ref b) := by
  refine .tup h1 h2 rfl (by show 2 ≤ 1000; decide) fun i u v hu hv => ?_
  match i, hu, hv with
  | 0, hu, hv => cases Option.some.inj hu; cases Option.some.inj hv; exact .str s hs
  | 1, hu, hv => cases Option.some.inj hu; cases Option.some.inj hv; exact h
theorem ev_same {ta tb : TE} {σ : L2.St} {H : Hp} {x y : V} (ha : Ev ta σ H x) (hb : Ev tb σ H y) (h : ∀ H', Ex H H' → Sm K H' 8 x y) : Ev (tCall (spSame K 8) [] E0 (tCons ta (tCons tb tNil))) σ H (.bl true) := fun H0 e Q q =>
  ha H0 e _ fun H1 e1 => hb H1 (e.trans e1) _ fun H2 e2 => ⟨_, _, rfl, h H2 ((e.trans e1).trans e2), fun H3 e3 => q H3 ((e1.trans e2).trans e3)⟩
/-- the told pair and the pair that is due -/
theorem ev_pairs {ta : TE} {tb : TA} {σ : L2.St} {H : Hp} {t : Addr} {s : Str} {x y : V} (ha : Ev ta σ H (.ref t)) (ht : H t = some (.tup [.str s, x])) (hs : s.length ≤ 1000) (hb : EvA tb σ H [.str s, y]) (h : ∀ H', Ex H H' → Sm K H' 7 x y) : Ev (tCall (spSame K 8) [] E0 (tCons ta (tCons (tTup tb) tNil))) σ H (.bl true) := fun H0 e Q q =>
  ha H0 e _ fun H1 e1 => (eu_tup hb (by show 2 ≤ 100000; decide) : EvU (tTup tb) σ H [.str s, y]) H1 (e.trans e1) _ fun p H2 hp e2 hpv =>
    ⟨_, _, rfl, sm_pair (SqT.of (((e.trans e1).trans e2) _ _ ht)) (SqT.of hpv) hs (h H2 ((e.trans e1).trans e2)), fun H3 e3 => q H3 ((e1.trans e2).trans e3)⟩
theorem rd_rowS {H : Hp} {p : Addr} {c : List Int} {n : Nat} (h : SqT K H p (c.map V.int)) (l : c.length ≤ 900) : Rd K (fun _ => True) H (n + 1) (.ref p) (rowD c) := by
  have r := rdl_ints (K := K) (ok := fun _ => True) (H := H) (n := n) c
  exact .tup h trivial r.1 (by rw [List.length_map]; omega) r.2
theorem ev_pairsT {ta te : TE} {σ : L2.St} {H : Hp} {t p : Addr} {s : Str} {ns : List Int} (ha : Ev ta σ H (.ref t)) (ht : H t = some (.tup [.str s, .ref p])) (hp : H p = some (.tup (ns.map V.int))) (hs : s.length ≤ 1000) (hn : ns.length ≤ 900) (hb : EvTp K te σ H (ns.map V.int)) : Ev (tCall (spSame K 8) [] E0 (tCons ta (tCons (tTup (tCons (tC (.str s)) (tCons te tNil))) tNil))) σ H (.bl true) := fun H0 e Q q =>
  ha H0 e _ fun H1 e1 => hb H1 (e.trans e1) _ fun p' H2 e2 hp' => ⟨two_le, fun D hD => by
    have e3 := Ex.new (o := .tup [.str s, .ref p']) hD
    have e03 := ((e.trans e1).trans e2).trans e3
    refine ⟨_, _, rfl, sm_pair (n := 7) (SqT.of (e03 _ _ ht)) (SqT.of upd_same) hs (Sm.le (n := 1) ?_ (by decide)), fun H4 e4 => q H4 (((e1.trans e2).trans e3).trans e4)⟩
    exact (rd_rowS (n := 0) (SqT.of (e03 _ _ hp)) hn).sm (rd_rowS (n := 0) (ex_t e3 hp') hn)⟩
/-- list(values) beside the copies -/
theorem ev_kept {ta tb : TE} {σ : L2.St} {H : Hp} {D vt : Addr} {ys xs : List V} {ds : List PyData} {ok ok' : Addr → Prop} (h3 : Ev ta σ H (.ref D)) (h2 : Ev tb σ H (.ref vt)) (hD : H D = some (.lst ys)) (hv : H vt = some (.tup xs)) (r1 : RdL K ok H 3 ys ds) (r2 : RdL K ok' H 3 xs ds) (hl : xs.length ≤ 3) :
    Ev (tCall (spSame K 8) [] E0 (tCons ta (tCons (tCB (rListOf K) (tCons tb tNil)) tNil))) σ H (.bl true) := fun H0 e Q q => by
  refine h3 H0 e _ fun H1 e1 => h2 H1 (e.trans e1) _ fun H2 e2 => ⟨vt, _, rfl, .inr (SqT.of (((e.trans e1).trans e2) _ _ hv)), fun l hl2 => ?_⟩
  have e4 := ((e.trans e1).trans e2).trans (Ex.new (o := .lst xs) hl2)
  refine ⟨_, _, rfl, Sm.le (n := 4) (.lst (SqL.of (e4 _ _ hD)) (SqL.of upd_same) (by rw [r1.1, r2.1]) (by rw [r1.1, ← r2.1]; omega) fun i y x hy hx => ?_) (by decide), fun H3 e3 => q H3 (((e1.trans e2).trans (Ex.new hl2)).trans e3)⟩
  have hi := (List.getElem?_eq_some_iff.mp hx).1
  have hd : ds[i]? = some (ds[i]'(by rw [← r2.1]; exact hi)) := List.getElem?_eq_getElem _
  exact ((r1.2 i y _ hy hd).ex e4).sm ((r2.2 i x _ hx hd).ex e4)
theorem ev_manyS {tl tc : TE} {σ : L2.St} {H : Hp} {n : Nat} {a : Addr} {ns : List Int} (hl : Ev tl σ H (.int (n : Int))) (hc : Ev tc σ H (.ref a)) (ha : SqI H a ns) (hn : n ≤ 16) (hb : ∀ z ∈ ns, 1 ≤ z ∧ z ≤ 17) : Ev (tCall (spLMany K) [] E0 (tCons tl (tCons tc tNil))) σ H (.int (manyI (n : Int) ns 1)) := fun H0 e Q q =>
  hl H0 e _ fun H1 e1 => hc H1 (e.trans e1) _ fun H2 e2 => ⟨_, a, ns, rfl, (ha.ex ((e.trans e1).trans e2)).sq, by omega, hb, q H2 (e1.trans e2)⟩
theorem ev_rankS {ta tb : TE} {σ : L2.St} {H : Hp} {a b : Addr} {ks : List Int} {xs : List V} {rs : List (List Int)} (ha : Ev ta σ H (.ref a)) (hb : Ev tb σ H (.ref b)) (h : SqI H a ks) (ht : H b = some (.tup xs)) (r : RowsT H xs rs) (ch : ChR ks rs) (kk : KOK ks) : Ev (tCall (spLRank K) [] E0 (tCons ta (tCons tb tNil))) σ H (.int (rnkP ks rs)) := fun H0 e Q q =>
  ha H0 e _ fun H1 e1 => hb H1 (e.trans e1) _ fun H2 e2 => by
    have e02 := (e.trans e1).trans e2
    obtain ⟨l1, _⟩ := chr_len rs ks kk.nd ch
    have k16 := kk.l
    exact ⟨a, b, ks, xs, rs, rfl, h.ex e02, e02 _ _ ht, r.ex e02, ch, kk.l, kk.so, fun z hz => (kk.b z hz).1, fun H3 e3 => q H3 ((e1.trans e2).trans e3)⟩
theorem ans_len : ∀ (rs : List (List Int)) (ks : List Int), (ansI ks rs).length ≤ rs.length
  | [], _ => Nat.le_refl _
  | [_], _ => Nat.zero_le _
  | c :: d :: cs, ks => by
    rw [ansI_cons]
    have := ans_len (d :: cs) (behindI ks c 1)
    simp only [List.length_cons] at this ⊢
    omega
/-- the answers that are due -/
theorem ev_walk1 {ta tb : TE} {σ : L2.St} {H : Hp} {a b : Addr} {ks : List Int} {xs : List V} {rs : List (List Int)} (ha : Ev ta σ H (.ref a)) (hb : Ev tb σ H (.ref b)) (h : SqI H a ks) (ht : H b = some (.tup xs)) (r : RowsT H xs rs) (ch : ChR ks rs) (kk : KOK ks) : EvTp K (tOp (rIxL K) (tCall spLWalk [] E0 (tCons ta (tCons tb tNil))) (tC (.int 1))) σ H ((ansI ks rs).map V.int) := fun H0 e Q q =>
  ha H0 e _ fun H1 e1 => hb H1 (e.trans e1) _ fun H2 e2 => by
    have e02 := (e.trans e1).trans e2
    exact ⟨a, b, ks, xs, rs, rfl, h.ex e02, e02 _ _ ht, r.ex e02, ch, kk.l, kk.so, fun p l t ys H3 e3 hp hl rl ht3 => ⟨_, _, _, _, rfl, rfl, SqL.of hp, rfl, q t H3 ((e1.trans e2).trans e3) (SqT.of ht3)⟩⟩
theorem ev_are {ta tb tc : TE} {σ : L2.St} {H : Hp} {t a b : Addr} {ks ns : List Int} {xs : List V} {rs : List (List Int)} (h1 : Ev ta σ H (.ref t)) (h2 : Ev tb σ H (.ref a)) (h3 : Ev tc σ H (.ref b)) (ht : H t = some (.tup xs)) (r : RowsT H xs rs) (ha : SqI H a ks) (hb : SqI H b ns) (l : lens rs = ns) (kk : KOK ks) (ch : ChR ks rs) : Ev (tCall (spLAre K) [] E0 (tCons ta (tCons tb (tCons tc tNil)))) σ H (.bl true) := fun H0 e Q q =>
  h1 H0 e _ fun H1 e1 => h2 H1 (e.trans e1) _ fun H2 e2 => h3 H2 ((e.trans e1).trans e2) _ fun H3 e3 => by
    have e03 := ((e.trans e1).trans e2).trans e3
    subst l
    exact ⟨t, a, b, xs, rs, ks, rfl, e03 _ _ ht, r.ex e03, ha.ex e03, hb.ex e03, kk, ch, fun H4 e4 => q H4 (((e1.trans e2).trans e3).trans e4)⟩
theorem lenI {te : TE} {σ : L2.St} {H : Hp} {a : Addr} {ks : List Int} (h : Ev te σ H (.ref a)) (ha : SqI H a ks) : Ev (tCB (rLen K) (tCons te tNil)) σ H (.int (ks.length : Int)) := by
  have := ev_lenV (K := K) h ha.sq
  rw [List.length_map] at this
  exact this
def spRight : Sp := fun vs H Q _ => ∃ (kind named : Int) (vt : Addr) (xs : List V) (ok : Addr → Prop), vs = [.int kind, .int named, .ref vt] ∧ H vt = some (.tup xs) ∧ AskQ ok H kind xs ∧ ∀ H', Ex H H' → Q (.bl true) H'
theorem ok_law_right (T : TK K mg) : FnOk P w K mg base CX0 10 T.law_right.a T.law_right.fd ["kind", "named", "values"] spRight := by
  refine T.law_right.F.ok sc_law_right (fun vs H Q E h => ?_) (fun cdv A outer s H vs Q E hr h => ?_)
  · obtain ⟨kind, named, vt, xs, ok, rfl, _⟩ := h; rfl
  obtain ⟨kind, named, vt, xs, ok, rfl, hv, ask, q⟩ := h
  refine ⟨_, (pss_cons (ps_setLc (i := 3) (own := [("one", 8)]) (g := gName 8) (by rfl) sc_law_right.nd rfl rfl (sw_true rfl rfl rfl (by decide +kernel)) (kpit K (pv 2)) (blkOk_by (own := [("one", 8)]) (N := ["kind", "named", "values", "passed", "told", "rank", "wires", "sizes", "one"]) (sc := defScope s_law_right) (by decide +kernel)) (fun _ _ _ _ _ => (pg_name (i := 8) sc_law_right.nd rfl (Or.inl rfl))) (fun _ _ _ _ _ => pts_nil) (fun _ _ _ _ _ => (pe_ifExp (pt_val (pe_callB (kisi K) (by rfl) T.z_isinstance (by decide +kernel) (pa_cons (pv 8) (pa_cons (pe_bltn (v := .ty "list") rfl T.z_list (by decide +kernel) rfl) pa_nil)))) (pe_callTy (klist K) (by rfl) T.z_list (by decide +kernel) (pa_cons (pv 8) pa_nil)) (pv 8))))
    (pss_cons (ps_set (i := 4) sc_law_right.nd rfl (Or.inl rfl) (pe_call (ok_law_told T) (hr.mono (by decide)) rfl T.law_told.m T.law_told.F.kp T.law_told.b .nil pass0 (pa_cons (pv 0) (pa_cons (pv 1) (pa_cons (pv 3) pa_nil)))))
    (pss_cons (ps_if (pt_not (pt_val (pe_call (ok_law_same T.toTA1) (hr.mono (by decide)) rfl T.law_same.m T.law_same.F.kp T.law_same.b .nil pass0 (pa_cons (pv 3) (pa_cons (pe_callTy (klist K) (by rfl) T.z_list (by decide +kernel) (pa_cons (pv 2) pa_nil)) pa_nil))))) (pss_one (ps_ret pe_bl)) pss_nil)
    (pss_cons (ps_if (pt_cmpR op_eq (pv 0) pe_int (nomark _)) (pss_one (ps_ret (pe_call (ok_law_same T.toTA1) (hr.mono (by decide)) rfl T.law_same.m T.law_same.F.kp T.law_same.b .nil pass0 (pa_cons (pv 4) (pa_cons (pe_tup (pa_cons pe_str (pa_cons (pe_call (ok_law_many T) (hr.mono (by decide)) rfl T.law_many.m T.law_many.F.kp T.law_many.b .nil pass0 (pa_cons (pe_ix (kixt K) (pv 2) pe_int (fun _ _ => rfl)) (pa_cons (pe_ix (kixt K) (pv 2) pe_int (fun _ _ => rfl)) pa_nil))) pa_nil))) pa_nil))))) pss_nil)
    (pss_cons (ps_if (pt_cmpR op_eq (pv 0) pe_int (nomark _)) (pss_one (ps_ret (pe_call (ok_law_same T.toTA1) (hr.mono (by decide)) rfl T.law_same.m T.law_same.F.kp T.law_same.b .nil pass0 (pa_cons (pv 4) (pa_cons (pe_tup (pa_cons pe_str (pa_cons (pe_call (ok_law_rank T) (hr.mono (by decide)) rfl T.law_rank.m T.law_rank.F.kp T.law_rank.b .nil pass0 (pa_cons (pe_ix (kixt K) (pv 2) pe_int (fun _ _ => rfl)) (pa_cons (pe_ix (kixt K) (pv 2) pe_int (fun _ _ => rfl)) pa_nil))) pa_nil))) pa_nil))))) pss_nil)
    (pss_cons (ps_if (pt_cmpR op_eq (pv 0) pe_int (nomark _)) (pss_one (ps_ret (pe_call (ok_law_same T.toTA1) (hr.mono (by decide)) rfl T.law_same.m T.law_same.F.kp T.law_same.b .nil pass0 (pa_cons (pv 4) (pa_cons (pe_tup (pa_cons pe_str (pa_cons (pe_ix (kixl K) (pe_call (ok_law_walk T) (hr.mono (by decide)) rfl T.law_walk.m T.law_walk.F.kp T.law_walk.b .nil pass0 (pa_cons (pe_ix (kixt K) (pv 2) pe_int (fun _ _ => rfl)) (pa_cons (pe_ix (kixt K) (pv 2) pe_int (fun _ _ => rfl)) pa_nil))) pe_int (fun _ _ => rfl)) pa_nil))) pa_nil))))) pss_nil)
    (pss_cons (ps_asg (pv 2) (pg_tup (by rfl) (pgs_cons (pg_name (i := 5) sc_law_right.nd rfl (Or.inl rfl)) (pgs_cons (pg_name (i := 6) sc_law_right.nd rfl (Or.inl rfl)) (pgs_cons (pg_name (i := 7) sc_law_right.nd rfl (Or.inl rfl)) pgs_nil)))))
    (pss_cons (ps_if (PW.pt (pw_or (pt_cmpR op_lt (pv 5) pe_int (nomark _)) (pw_or1 (pt_cmpR op_ge (pv 5) (pe_call (ok_law_many T) (hr.mono (by decide)) rfl T.law_many.m T.law_many.F.kp T.law_many.b .nil pass0 (pa_cons (pe_callB (klen K) (by rfl) T.z_len (by decide +kernel) (pa_cons (pv 6) pa_nil)) (pa_cons (pv 7) pa_nil))) (nomark _))))) (pss_one (ps_ret (pe_call (ok_law_same T.toTA1) (hr.mono (by decide)) rfl T.law_same.m T.law_same.F.kp T.law_same.b .nil pass0 (pa_cons (pv 4) (pa_cons (pe_tup (pa_cons pe_str (pa_cons (pv 5) pa_nil))) pa_nil))))) pss_nil)
    (pss_one (ps_ret (pe_and (pe_cmpR op_eq (pe_ix (kixt K) (pv 4) pe_int (fun _ _ => rfl)) pe_str (nomark _)) (pe_and (pe_call (ok_law_are_raised T) (hr.mono (by decide)) rfl T.law_are_raised.m T.law_are_raised.F.kp T.law_are_raised.b .nil pass0 (pa_cons (pe_ix (kixt K) (pv 4) pe_int (fun _ _ => rfl)) (pa_cons (pv 6) (pa_cons (pv 7) pa_nil)))) (pe_one (pe_cmpR op_eq (pe_call (ok_law_rank T) (hr.mono (by decide)) rfl T.law_rank.m T.law_rank.F.kp T.law_rank.b .nil pass0 (pa_cons (pv 6) (pa_cons (pe_ix (kixt K) (pv 4) pe_int (fun _ _ => rfl)) pa_nil))) (pv 5) (nomark _))))))))))))))), ?_⟩
  obtain ⟨ds, ab, rd⟩ := ask.data (K := K)
  have l3 := ab.len
  refine q_copies (K := K) (tl := tVar 2) (σ := [some (.int kind), some (.int named), some (.ref vt), none, none, none, none, none, none]) (ds := ds) (ev_var rfl) hv l3 rd (fun _ => rfl) (fun _ => rfl) fun D ys H1 hD e1 hDv ry => ?_
  have hv1 := e1 _ _ hv
  have rd1 := rd.ex e1
  have w16 : ∀ {s : Str} {n : Nat}, s.length = n → n ≤ 1000 → s.length ≤ 1000 := fun h1 h2 => by omega
  have two : ∀ {te : TE} {σ : L2.St} {H' : Hp} {k : Nat} {x : V}, Ev te σ H' (.ref vt) → Ex H H' → xs[k]? = some x → Ev (tOp (rIxT K) te (tC (.int (k : Int)))) σ H' x := fun {te σ H' k x} h e hx => ev_op h ev_c (rv_ixT (SqT.of (e _ _ hv)) (atI_nat hx))
  have e01 := e1
  cases ab with
  | @many c a ns d hc ha sk sd =>
    obtain ⟨y0, y1, rfl, r0, r1⟩ : ∃ y0 y1, ys = [y0, y1] ∧ Rd K (fun a => a ≠ D) H1 3 y0 (.int (c : Int)) ∧ Rd K (fun a => a ≠ D) H1 3 y1 d := by
      match ys, ry with
      | [y0, y1], ry => exact ⟨y0, y1, rfl, ry.2 0 _ _ rfl rfl, ry.2 1 _ _ rfl rfl⟩
      | [], ry => cases ry.1
      | [_], ry => cases ry.1
      | _ :: _ :: _ :: _, ry => cases ry.1
    refine ⟨_, rfl, _, rfl, _, rfl, 0, named, D, _, 3, _, rfl, SqL.of hDv, by decide, .many r0 r1 hc sd sk fun t H2 e2 ht => ?_⟩
    have e02 := e01.trans e2
    refine q_when (b := false) (et_is (et_not (et_B (ev_kept (ev_var rfl) (ev_var rfl) (e2 _ _ hDv) (e02 _ _ hv) (ry.ex e2) (rd.ex e02) l3))) rfl) (fun z => nomatch z) fun _ H3 e3 => ?_
    have e03 := e02.trans e3
    refine ⟨_, rfl, rfl, _, rfl, iteT ?_⟩
    refine s_ret (ev_pairs (ev_var rfl) (e3 _ _ ht) (by decide +kernel) (ea_cons ev_c (ea_cons (ev_manyS (two (k := 0) (ev_var rfl) e03 rfl) (two (k := 1) (ev_var rfl) e03 rfl) (ha.ex e03) hc sk.b) ea_nil)) fun _ _ => .int _) fun H4 e4 => q H4 (e03.trans e4)
  | @rank kind hk23 r a zs rs ks d hr rw_ ha kk ch sd =>
    obtain ⟨y0, y1, rfl, r0, r1⟩ : ∃ y0 y1, ys = [y0, y1] ∧ Rd K (fun a => a ≠ D) H1 3 y0 (rowsD rs) ∧ Rd K (fun a => a ≠ D) H1 3 y1 d := by
      match ys, ry with
      | [y0, y1], ry => exact ⟨y0, y1, rfl, ry.2 0 _ _ rfl rfl, ry.2 1 _ _ rfl rfl⟩
      | [], ry => cases ry.1
      | [_], ry => cases ry.1
      | _ :: _ :: _ :: _, ry => cases ry.1
    rcases hk23 with rfl | rfl
    · refine ⟨_, rfl, _, rfl, _, rfl, 2, named, D, _, 3, _, rfl, SqL.of hDv, by decide, .rank r0 r1 sd kk ch fun t H2 e2 ht => ?_⟩
      have e02 := e01.trans e2
      refine q_when (b := false) (et_is (et_not (et_B (ev_kept (ev_var rfl) (ev_var rfl) (e2 _ _ hDv) (e02 _ _ hv) (ry.ex e2) (rd.ex e02) l3))) rfl) (fun z => nomatch z) fun _ H3 e3 => ?_
      have e03 := e02.trans e3
      refine ⟨_, rfl, rfl, _, rfl, iteF ⟨_, rfl, rfl, _, rfl, iteT ?_⟩⟩
      refine s_ret (ev_pairs (ev_var rfl) (e3 _ _ ht) (by decide +kernel) (ea_cons ev_c (ea_cons (ev_rankS (two (k := 1) (ev_var rfl) e03 rfl) (two (k := 0) (ev_var rfl) e03 rfl) (ha.ex e03) (e03 _ _ hr) (rw_.ex e03) ch kk) ea_nil)) fun _ _ => .int _) fun H4 e4 => q H4 (e03.trans e4)
    · refine ⟨_, rfl, _, rfl, _, rfl, 3, named, D, _, 3, _, rfl, SqL.of hDv, by decide, .answers r0 r1 sd kk ch fun p t H2 e2 hp ht => ?_⟩
      have e02 := e01.trans e2
      refine q_when (b := false) (et_is (et_not (et_B (ev_kept (ev_var rfl) (ev_var rfl) (e2 _ _ hDv) (e02 _ _ hv) (ry.ex e2) (rd.ex e02) l3))) rfl) (fun z => nomatch z) fun _ H3 e3 => ?_
      have e03 := e02.trans e3
      refine ⟨_, rfl, rfl, _, rfl, iteF ⟨_, rfl, rfl, _, rfl, iteF ⟨_, rfl, rfl, _, rfl, iteT ?_⟩⟩⟩
      obtain ⟨rl1, _⟩ := chr_len rs ks kk.nd ch
      have k16 := kk.l
      have al := ans_len rs ks
      refine s_ret (ev_pairsT (ev_var rfl) (e3 _ _ ht) (e3 _ _ hp) (by decide +kernel) (by omega) (ev_walk1 (two (k := 1) (ev_var rfl) e03 rfl) (two (k := 0) (ev_var rfl) e03 rfl) (ha.ex e03) (e03 _ _ hr) (rw_.ex e03) ch kk)) fun H4 e4 => q H4 (e03.trans e4)
  | @rounds i a b ks ns d e ha kk hb sk sd se =>
    obtain ⟨y0, y1, y2, rfl, r0, r1, r2⟩ : ∃ y0 y1 y2, ys = [y0, y1, y2] ∧ Rd K (fun a => a ≠ D) H1 3 y0 (.int i) ∧ Rd K (fun a => a ≠ D) H1 3 y1 d ∧ Rd K (fun a => a ≠ D) H1 3 y2 e := by
      match ys, ry with
      | [y0, y1, y2], ry => exact ⟨y0, y1, y2, rfl, ry.2 0 _ _ rfl rfl, ry.2 1 _ _ rfl rfl, ry.2 2 _ _ rfl rfl⟩
      | [], ry => cases ry.1
      | [_], ry => cases ry.1
      | [_, _], ry => cases ry.1
      | _ :: _ :: _ :: _ :: _, ry => cases ry.1
    refine ⟨_, rfl, _, rfl, _, rfl, 1, named, D, _, 3, _, rfl, SqL.of hDv, by decide, .rounds r0 r1 r2 sd kk se sk (fun i0 i1 p zs t H2 e2 hp hr ht => ?_) (fun no t H2 e2 ht => ?_)⟩
    all_goals
      have e02 := e01.trans e2
      refine q_when (b := false) (et_is (et_not (et_B (ev_kept (ev_var rfl) (ev_var rfl) (e2 _ _ hDv) (e02 _ _ hv) (ry.ex e2) (rd.ex e02) l3))) rfl) (fun z => nomatch z) fun _ H3 e3 => ?_
      have e03 := e02.trans e3
      refine ⟨_, rfl, rfl, _, rfl, iteF ⟨_, rfl, rfl, _, rfl, iteF ⟨_, rfl, rfl, _, rfl, iteF ?_⟩⟩⟩
      refine ⟨_, rfl, vt, _, rfl, SqT.of (e03 _ _ hv), rfl, _, _, rfl, _, _, rfl, _, _, rfl, rfl, ?_⟩
    · obtain ⟨g1, g2, g3⟩ := rnd_chain ns ks i kk.nd kk.l (fun z hz => (sk.b z hz).1) i0 i1
      refine q_when (b := false) (et_is (et_or (a := false) (et_is (et_test (ev_op (ev_var rfl) ev_c rv_I0)) (decide_eq_false (by omega))) fun _ => et_test (ev_op (ev_var rfl) (ev_manyS (lenI (ev_var rfl) (ha.ex e03)) (ev_var rfl) (hb.ex e03) kk.l sk.b) rv_I0)) (by rw [Bool.false_or]; exact decide_eq_false (by omega))) (fun z => nomatch z) fun _ H4 e4 => ?_
      have e04 := e03.trans e4
      have ht4 := e4 _ _ (e3 _ _ ht)
      have hp4 := e4 _ _ (e3 _ _ hp)
      have hr4 := (hr.ex e3).ex e4
      have tp : ∀ {σ : L2.St}, σ[4]? = some (some (.ref t)) → Ev (tOp (rIxT K) (tVar 4) (tC (.int 1))) σ H4 (.ref p) := fun h => ev_op (ev_var h) ev_c (rv_ixT (SqT.of ht4) rfl)
      refine s_ret (v := .bl true) (ev_is (ev_andV (a := true) (ev_is (ev_op (ev_op (ev_var rfl) ev_c (rv_ixT (SqT.of ht4) rfl)) ev_c (rv_eq rfl)) (by rw [decide_eq_true rfl])) fun _ => ev_andV (a := true) (ev_are (tp rfl) (ev_var rfl) (ev_var rfl) hp4 hr4 (ha.ex e04) (hb.ex e04) g2 kk g1) fun _ => ev_is (ev_op (ev_rankS (ev_var rfl) (tp rfl) (ha.ex e04) hp4 hr4 g1 kk) (ev_var rfl) (rv_eq rfl)) (by rw [g3, decide_eq_true rfl])) rfl) fun H5 e5 => q H5 (e04.trans e5)
    · refine q_when (b := true) (et_is (et_or (a := decide (i < 0)) (et_test (ev_op (ev_var rfl) ev_c rv_I0)) fun _ => et_test (ev_op (ev_var rfl) (ev_manyS (lenI (ev_var rfl) (ha.ex e03)) (ev_var rfl) (hb.ex e03) kk.l sk.b) rv_I0)) ?_) (fun _ H4 e4 => ?_) fun z => nomatch z
      · rw [Bool.or_eq_true, decide_eq_true_eq, decide_eq_true_eq]
        omega
      · exact s_ret (ev_pairs (ev_var rfl) (e4 _ _ (e3 _ _ ht)) (by decide +kernel) (ea_cons ev_c (ea_cons (ev_var rfl) ea_nil)) fun _ _ => .int _) fun H5 e5 => q H5 ((e03.trans e4).trans e5)
end
end L2.U


set_option Elab.async false
set_option linter.all false
set_option maxRecDepth 100000
set_option maxHeartbeats 4000000
namespace L2.U
open PySem PySem.Spec PyProof.Rows Evl

section
variable {P : Program} {w : World} {K : PySem.W.Frag} {mg : Str → Option Value} {base : Heap}
theorem but_fresh {H H' : Hp} {b f : Addr} {n m : Nat} (k : But b H H') (hb : BoxAt H b n) (hb2 : BoxAt H' b m) (h : H' f = none) : H f = none := by
  obtain ⟨o, ho⟩ := hb.some
  exact k.none ho h (hb2.ne h)
theorem seqIx {n k : Nat} (h : k < n) : seqIndex? (k : Int) n = some k := by
  exact (ixN_seq (ixN_nat h)).1
theorem eraseIdx_ints {ns : List Int} {k : Nat} : (ns.map V.int).eraseIdx k = (ns.eraseIdx k).map V.int := by
  rw [List.eraseIdx_eq_take_drop_succ, List.eraseIdx_eq_take_drop_succ, List.map_append, List.map_take, List.map_drop]
/-- all but two cells stay -/
def But2 (b R : Addr) (H H' : Hp) : Prop := ∀ a o, a ≠ b → a ≠ R → H a = some o → H' a = some o
theorem But2.of {b R : Addr} {H H' : Hp} (k : But b H H') : But2 b R H H' := fun a o h1 _ h => k a o h1 h
theorem But2.trans {b R : Addr} {H H1 H2 : Hp} (k : But2 b R H H1) (l : But2 b R H1 H2) : But2 b R H H2 := fun a o h1 h2 h => l a o h1 h2 (k a o h1 h2 h)
theorem But2.put {b R : Addr} {H : Hp} {o : HO} : But2 b R H (upd H R o) := fun a u _ h2 h => by rw [upd_ne h2]; exact h
theorem But2.mut {b R D : Addr} {H G : Hp} {o : HO} (k : But2 b R H G) (hD : H D = none) : But2 b R H (upd G D o) := fun a u h1 h2 h => by
  rw [upd_ne (ne_of_none h hD)]
  exact k a u h1 h2 h
theorem rowsT_but2 {H H' : Hp} {b R : Addr} {ys zs xs : List V} {rs : List (List Int)} (r : RowsT H xs rs) (hb : H b = some (.lst ys)) (hR : H R = some (.lst zs)) (k : But2 b R H H') : RowsT H' xs rs := ⟨r.1, fun j x ns hx hn => by
  obtain ⟨p, h1, h2⟩ := r.2 j x ns hx hn
  exact ⟨p, h1, k _ _ (ne_of h2 hb (by intro z; cases z)) (ne_of h2 hR (by intro z; cases z)) h2⟩⟩
theorem box_list {H : Hp} {b : Addr} {n : Nat} (h : BoxAt H b n) : ∃ ys, H b = some (.lst ys) := by
  obtain ⟨d, m, c, f, hb, _⟩ := h
  exact ⟨_, hb⟩
theorem but_mut {b D : Addr} {o : HO} {H G : Hp} (k : But b H G) (hD : H D = none) : But b H (upd G D o) := fun a u n h => by
  rw [upd_ne (ne_of_none h hD)]
  exact k a u n h
theorem box_upd {H : Hp} {b D : Addr} {n : Nat} {o : HO} (B : BoxAt H b n) (h : D ≠ b) : BoxAt (upd H D o) b n := by
  obtain ⟨d, m, c, f, hb, r⟩ := B
  exact ⟨d, m, c, f, by rw [upd_ne h.symm]; exact hb, r⟩
def spLKindsD : Sp := fun vs H Q _ => ∃ (b : Addr) (n c : Nat), vs = [.ref b, .int (c : Int)] ∧ c ≤ 16 ∧ BoxAt H b (n + 1 + c) ∧ ∀ p (ns : List Int) H', H p = none → H' p = some (.lst (ns.map V.int)) → ns.length = c → KOK ns → BoxAt H' b n → But b H H' → Q (.ref p) H'
theorem ok_law_wires (T : TK K mg) : FnOk P w K mg base CX0 2 T.law_wires.a T.law_wires.fd ["box", "count"] spLKindsD := by
  refine T.law_wires.F.ok sc_law_wires (fun vs H Q E h => ?_) (fun cdv A outer s H vs Q E hr h => ?_)
  · obtain ⟨b, n, c, rfl, _⟩ := h; rfl
  obtain ⟨b, n, c, rfl, hc, hB, q⟩ := h
  refine ⟨_, (pss_cons (ps_par3 (i := 2) (j := 3) (l := 4) (by rfl) sc_law_wires.nd rfl rfl rfl (by decide) (by decide) (by decide) rfl rfl rfl (pa_cons (pe_call (ok_law_take T.toTA1) (hr.mono (by decide)) rfl T.law_take.m T.law_take.F.kp T.law_take.b .nil pass0 (pa_cons (pv 0) (pa_cons pe_int pa_nil))) (pa_cons (pe_lst pa_nil) (pa_cons pe_int pa_nil))) (by rfl))
    (pss_cons (ps_for PassesOwn.never rfl (pi_range1 rfl T.z_range (pa_cons (pv 1) pa_nil)) (pg_name (i := 5) sc_law_wires.nd rfl (Or.inl rfl)) (pss_cons (ps_set (i := 4) sc_law_wires.nd rfl (Or.inl rfl) (pe_op op_add (pe_op op_add (pv 4) pe_int) (pe_call (ok_law_take T.toTA1) (hr.mono (by decide)) rfl T.law_take.m T.law_take.F.kp T.law_take.b .nil pass0 (pa_cons (pv 0) (pa_cons pe_int pa_nil)))))
    (pss_one (ps_expr (pe_bm PySem.F.plainAttrs_list PySem.F.slot_list_append PySem.F.type_list_append mt_append (pv 3) (pa_cons (pv 4) pa_nil))))))
    (pss_one (ps_ret (pe_ix (kixl K) (pe_lst (pa_cons (by exact (pe_listRg (by rfl) (by rfl) T.z_list (prg_2 (by rfl) T.z_range pe_int (pe_op op_add (pv 1) pe_int)))) (pa_cons (by exact (pe_listRg (by rfl) (by rfl) T.z_list (prg_2 (by rfl) T.z_range (pe_op op_sub pe_int (pv 1)) pe_int))) (pa_cons (pv 3) (pa_cons (pv 3) pa_nil))))) (pv 2) (fun _ _ => rfl)))))), ?_⟩
  refine ⟨_, rfl, b, 4, n + c, rfl, by decide, by decide, hB.le (by omega), fun way H1 w0 w1 B1 k1 => ⟨Nat.zero_le _, fun F hF => ⟨_, _, _, rfl, ?_⟩⟩⟩
  have Fb : F ≠ b := B1.ne hF
  have F0 : H F = none := but_fresh k1 hB B1 hF
  refine ⟨_, rfl, _, rfl, by omega, by omega, for_range (lo := 0) (n := ((c : Int)).toNat) (fun i σ H' => BoxAt H' b (n + c - i) ∧ But b H H' ∧ ∃ (ns : List Int) (l : Int) (v : Option V), H' F = some (.lst (ns.map V.int)) ∧ KGr ns l i ∧ σ = [some (.ref b), some (.int (c : Int)), some (.int way), some (.ref F), some (.int l), v])
    ⟨B1.ex (Ex.new hF), k1.ex (Ex.new hF), [], 0, _, upd_same, .start, rfl⟩ ?_ ?_⟩
  · rintro i σ H' hi ⟨B, kk, ns, l, v, hf, g, rfl⟩
    obtain ⟨m, hm⟩ : ∃ m, n + c - i = m + 1 := ⟨n + c - i - 1, by omega⟩
    have hm2 : n + c - (i + 1) = m := by omega
    rw [hm] at B
    refine ⟨_, rfl, _, _, rfl, rfl, _, rfl, b, 4, m, rfl, by decide, by decide, B, fun r H5 a0 a1 B5 k5 => ⟨_, _, rfl, rfl, ?_⟩⟩
    have hf5 := k5 _ _ Fb hf
    have gl := g.len
    refine ⟨_, rfl, .inl ⟨rfl, _, SqL.of hf5⟩, _, rfl, F, _, _, rfl, rfl, hf5, small1000 (by rw [List.length_map]; omega), ?_⟩
    refine ⟨?_, but_mut (kk.trans k5) F0, ns ++ [l + 1 + r], _, _, by rw [upd_same, List.map_append]; rfl, g.snoc a0 a1, rfl⟩
    rw [hm2]
    exact box_upd B5 Fb
  · rintro σ H2 ⟨B2, k2, ns, l, v, hf, g, rfl⟩
    have B2' := B2.le (show n ≤ n + c - ((c : Int)).toNat by omega)
    have gl := g.len
    refine ⟨_, rfl, _, _, rfl, rfl, _, _, rfl, rfl, ?_⟩
    refine ⟨.of_le (by omega) (by omega) (by omega) (by omega), fun q1 hq1 => ?_⟩
    refine ⟨_, rfl, _, _, rfl, rfl, _, _, rfl, rfl, .of_le (by omega) (by omega) (by omega) (by omega), fun q2 hq2 => ⟨_, rfl, _, rfl, (by show 4 ≤ sizeLine; decide), fun L hL => ?_⟩⟩
    have y1 := Ex.new (o := .lst (rgV 1 ((c : Int) + 1))) hq1
    have u1 : upd H2 q1 (.lst (rgV 1 ((c : Int) + 1))) q1 = some (.lst (rgV 1 ((c : Int) + 1))) := upd_same
    generalize upd H2 q1 (.lst (rgV 1 ((c : Int) + 1))) = G1 at *
    have y2 := Ex.new (o := .lst (rgV (65 - (c : Int)) 65)) hq2
    have u2 : upd G1 q2 (.lst (rgV (65 - (c : Int)) 65)) q2 = some (.lst (rgV (65 - (c : Int)) 65)) := upd_same
    generalize upd G1 q2 (.lst (rgV (65 - (c : Int)) 65)) = G2 at *
    have y3 := Ex.new (o := .lst [.ref q1, .ref q2, .ref F, .ref F]) hL
    have u3 : upd G2 L (.lst [.ref q1, .ref q2, .ref F, .ref F]) L = some (.lst [.ref q1, .ref q2, .ref F, .ref F]) := upd_same
    generalize upd G2 L (.lst [.ref q1, .ref q2, .ref F, .ref F]) = G3 at *
    have y13 := (y1.trans y2).trans y3
    have B3 := B2'.ex y13
    have k3 := k2.ex y13
    obtain ⟨n1, e1, l1, o1⟩ := rg_kok (a := 1) (c := (c : Int) + 1) (by decide) (by omega) (by omega)
    obtain ⟨n2, e2, l2, o2⟩ := rg_kok (a := 65 - (c : Int)) (c := 65) (by omega) (by decide) (by omega)
    rw [e1] at u1
    rw [e2] at u2
    have ok := g.kok (by omega)
    rcases (by omega : way = 0 ∨ way = 1 ∨ way = 2 ∨ way = 3) with rfl | rfl | rfl | rfl
    · exact ⟨_, rfl, _, _, _, _, rfl, rfl, SqL.of u3, rfl, q q1 n1 G3 (but_fresh k2 hB B2 hq1) (y3 _ _ (y2 _ _ u1)) (by omega) o1 B3 k3⟩
    · exact ⟨_, rfl, _, _, _, _, rfl, rfl, SqL.of u3, rfl, q q2 n2 G3 (but_fresh k2 hB B2 (fresh_back y1 hq2)) (y3 _ _ u2) (by omega) o2 B3 k3⟩
    · exact ⟨_, rfl, _, _, _, _, rfl, rfl, SqL.of u3, rfl, q F ns G3 F0 (y13 _ _ hf) (by omega) ok B3 k3⟩
    · exact ⟨_, rfl, _, _, _, _, rfl, rfl, SqL.of u3, rfl, q F ns G3 F0 (y13 _ _ hf) (by omega) ok B3 k3⟩
def spLSizesD : Sp := fun vs H Q _ => ∃ (b : Addr) (n c : Nat), vs = [.ref b, .int (c : Int)] ∧ c ≤ 16 ∧ BoxAt H b (n + 18) ∧ ∀ p (ns : List Int) H', H p = none → H' p = some (.lst (ns.map V.int)) → SOK ns → BoxAt H' b n → But b H H' → Q (.ref p) H'
theorem ok_law_sizes (T : TK K mg) : FnOk P w K mg base CX0 2 T.law_sizes.a T.law_sizes.fd ["box", "count"] spLSizesD := by
  refine T.law_sizes.F.ok sc_law_sizes (fun vs H Q E h => ?_) (fun cdv A outer s H vs Q E hr h => ?_)
  · obtain ⟨b, n, c, rfl, _⟩ := h; rfl
  obtain ⟨b, n, c, rfl, hc, hB, q⟩ := h
  refine ⟨_, (pss_cons (ps_par3 (i := 2) (j := 3) (l := 4) (by rfl) sc_law_sizes.nd rfl rfl rfl (by decide) (by decide) (by decide) rfl rfl rfl (pa_cons (pe_call (ok_law_take T.toTA1) (hr.mono (by decide)) rfl T.law_take.m T.law_take.F.kp T.law_take.b .nil pass0 (pa_cons (pv 0) (pa_cons pe_int pa_nil))) (pa_cons (pe_op op_add (pv 1) (pe_callTy call_int1 (by rfl) T.z_int (by decide +kernel) (pa_cons (pe_cmpR op_eq (pe_call (ok_law_take T.toTA1) (hr.mono (by decide)) rfl T.law_take.m T.law_take.F.kp T.law_take.b .nil pass0 (pa_cons (pv 0) (pa_cons pe_int pa_nil))) pe_int (nomark _)) pa_nil))) (pa_cons (pe_lst pa_nil) pa_nil))) (by rfl))
    (pss_cons (ps_for PassesOwn.never rfl (pi_range1 rfl T.z_range (pa_cons (pe_ix (kixl K) (pe_lst (pa_cons pe_int (pa_cons pe_int (pa_cons pe_int (pa_cons pe_int (pa_cons pe_int (pa_cons pe_int pa_nil))))))) (pv 2) (fun _ _ => rfl)) pa_nil)) (pg_name (i := 5) sc_law_sizes.nd rfl (Or.inl rfl)) (pss_one (ps_if (PW.pt (pw_and (pt_cmpR op_gt (pv 3) pe_int (nomark _)) (pw_and1 (pt_cmpR op_lt (pe_callB (klen K) (by rfl) T.z_len (by decide +kernel) (pa_cons (pv 4) pa_nil)) pe_int (nomark _))))) (pss_cons (ps_set (i := 6) sc_law_sizes.nd rfl (Or.inl rfl) (pe_ifExp (pt_cmpR op_eq (pv 2) pe_int (nomark _)) pe_int (pe_op op_add pe_int (pe_call (ok_law_take T.toTA1) (hr.mono (by decide)) rfl T.law_take.m T.law_take.F.kp T.law_take.b .nil pass0 (pa_cons (pv 0) (pa_cons (pe_ix (kixl K) (pe_lst (pa_cons pe_int (pa_cons (pv 3) (pa_cons (pe_callB (call_min2 rfl) (by rfl) T.z_min (by decide +kernel) (pa_cons (pv 3) (pa_cons pe_int pa_nil))) (pa_cons (pe_callB (call_min2 rfl) (by rfl) T.z_min (by decide +kernel) (pa_cons (pv 3) (pa_cons pe_int pa_nil))) (pa_cons (pe_callB (call_min2 rfl) (by rfl) T.z_min (by decide +kernel) (pa_cons (pv 3) (pa_cons pe_int pa_nil))) pa_nil)))))) (pv 2) (fun _ _ => rfl)) pa_nil))))))
    (pss_cons (ps_expr (pe_bm PySem.F.plainAttrs_list PySem.F.slot_list_append PySem.F.type_list_append mt_append (pv 4) (pa_cons (pv 6) pa_nil)))
    (pss_one (ps_set (i := 3) sc_law_sizes.nd rfl (Or.inl rfl) (pe_op op_sub (pe_op op_sub (pv 3) (pv 6)) pe_int))))) pss_nil)))
    (pss_one (ps_ret (pv 4))))), ?_⟩
  refine ⟨_, rfl, b, 6, n + 17, rfl, by decide, by decide, hB, fun way H1 w0 w1 B1 k1 => ⟨_, rfl, _, rfl, b, 5, n + 16, rfl, by decide, by decide, B1, fun r H2 r0 r1 B2 k2' => ⟨rfl, .inr ⟨_, rfl, _, _, rfl, rfl, Nat.zero_le _, fun F hF => ⟨_, _, _, rfl, ?_⟩⟩⟩⟩⟩
  have k2 := k1.trans k2'
  have Fb : F ≠ b := B2.ne hF
  have F0 : H F = none := but_fresh k2 hB B2 hF
  have hl01 : 0 ≤ (c : Int) + (if decide (V.int r = V.int 0) = true then 1 else 0) ∧ (c : Int) + (if decide (V.int r = V.int 0) = true then 1 else 0) ≤ 17 := by split <;> omega
  obtain ⟨N, hat, hN, h5⟩ : ∃ N : Nat, atI [V.int 16, .int 2, .int 3, .int 4, .int 16, .int 0] way = some (.int (N : Int)) ∧ N ≤ 16 ∧ (way = 5 → N = 0) := by
    rcases (by omega : way = 0 ∨ way = 1 ∨ way = 2 ∨ way = 3 ∨ way = 4 ∨ way = 5) with rfl | rfl | rfl | rfl | rfl | rfl
    · exact ⟨16, rfl, by decide, fun z => by cases z⟩
    · exact ⟨2, rfl, by decide, fun z => by cases z⟩
    · exact ⟨3, rfl, by decide, fun z => by cases z⟩
    · exact ⟨4, rfl, by decide, fun z => by cases z⟩
    · exact ⟨16, rfl, by decide, fun z => by cases z⟩
    · exact ⟨0, rfl, by decide, fun _ => rfl⟩
  have y1 := Ex.new (o := .lst []) hF
  have hF1 : (upd H2 F (.lst [])) F = some (.lst []) := upd_same
  have B3 := B2.ex y1
  have k3 := k2.ex y1
  generalize upd H2 F (.lst []) = H3 at hF1 B3 k3 ⊢
  refine ⟨(by show 6 ≤ sizeLine; decide), fun L hL => ⟨_, rfl, _, _, _, _, rfl, rfl, SqL.of upd_same, hat, (N : Int), rfl, by omega, by omega, ?_⟩⟩
  have y2 := Ex.new (o := .lst [.int 16, .int 2, .int 3, .int 4, .int 16, .int 0]) hL
  refine for_range (lo := 0) (n := ((N : Int)).toNat) (fun i σ H' => BoxAt H' b (n + 16 - i) ∧ But b H H' ∧ ∃ (ns : List Int) (l : Int) (v5 v6 : Option V), H' F = some (.lst (ns.map V.int)) ∧ ns.length ≤ i ∧ (∀ z ∈ ns, 1 ≤ z ∧ z ≤ 17) ∧ l ≤ 17 ∧ σ = [some (.ref b), some (.int (c : Int)), some (.int way), some (.int l), some (.ref F), v5, v6])
    ⟨B3.ex y2, k3.ex y2, [], _, _, _, y2 _ _ hF1, Nat.le_refl _, (fun z hz => by cases hz), hl01.2, rfl⟩ ?_ ?_
  · rintro i σ H' hi ⟨B, kk, ns, l, v5, v6, hf, hl, hz, lb, rfl⟩
    obtain ⟨m, hm⟩ : ∃ m, n + 16 - i = m + 1 := ⟨n + 16 - i - 1, by omega⟩
    have hm2 : n + 16 - (i + 1) = m := by omega
    rw [hm] at B
    have wn : way ≠ 5 := fun z => by have := h5 z; omega
    refine s_if (b := decide (0 < l)) (et_is (et_and (a := decide (0 < l)) (b := true) (et_test (ev_op (ev_var rfl) ev_c rv_I0)) fun _ => ?_) (Bool.and_true _)) (fun cl G eg => ?_) (fun cl G eg => ?_)
    · have fl := ev_lenV (K := K) (te := tVar 4) (σ := [some (.ref b), some (.int (c : Int)), some (.int way), some (.int l), some (.ref F), some (.int (0 + (i : Int))), v6]) (H := H') (a := F) (xs := ns.map V.int) (ev_var rfl) (.inl (SqL.of hf))
      rw [List.length_map] at fl
      exact et_is (et_test (ev_op fl ev_c rv_I0)) (decide_eq_true (by omega))
    · have cl' : 0 < l := of_decide_eq_true cl
      have B := B.ex eg
      have kk := kk.ex eg
      have hf := eg _ _ hf
      have tail : ∀ (D : Ends) (z : Int) (H5 : Hp), H5 F = some (.lst (ns.map V.int)) → D.nx [some (.ref b), some (.int (c : Int)), some (.int way), some (.int (l - z - 1)), some (.ref F), some (.int (0 + (i : Int))), some (.int z)] (upd H5 F (.lst ((ns ++ [z]).map V.int))) →
          tSeq (tDrop (tBM K "list" rAppend (tVar 4) (tCons (tVar 6) tNil))) (tAsg (tOp (rI0 fun i j => V.int (i - j)) (tOp (rI0 fun i j => V.int (i - j)) (tVar 3) (tVar 6)) (tC (V.int 1))) (gName 3)) D [some (.ref b), some (.int (c : Int)), some (.int way), some (.int l), some (.ref F), some (.int (0 + (i : Int))), some (.int z)] H5 := fun D z H5 hf5 k => by
        refine ⟨_, rfl, .inl ⟨rfl, _, SqL.of hf5⟩, _, rfl, F, _, _, rfl, rfl, hf5, small1000 (by rw [List.length_map]; omega), ⟨_, rfl, _, rfl, _, _, rfl, rfl, _, _, rfl, rfl, ?_⟩⟩
        rw [List.map_append] at k
        exact k
      have done : ∀ (z : Int) (H5 : Hp), 1 ≤ z → z ≤ l → BoxAt H5 b m → But b H H5 → BoxAt (upd H5 F (.lst ((ns ++ [z]).map V.int))) b (n + 16 - (i + 1)) ∧ But b H (upd H5 F (.lst ((ns ++ [z]).map V.int))) ∧ ∃ (ns' : List Int) (l' : Int) (v5 v6 : Option V), (upd H5 F (.lst ((ns ++ [z]).map V.int))) F = some (.lst (ns'.map V.int)) ∧ ns'.length ≤ i + 1 ∧ (∀ z ∈ ns', 1 ≤ z ∧ z ≤ 17) ∧ l' ≤ 17 ∧ [some (.ref b), some (.int (c : Int)), some (.int way), some (.int (l - z - 1)), some (.ref F), some (.int (0 + (i : Int))), some (.int z)] = [some (V.ref b), some (.int (c : Int)), some (.int way), some (.int l'), some (.ref F), v5, v6] := fun z H5 z1 z2 B5 k5 => by
        rw [hm2]
        refine ⟨box_upd B5 Fb, but_mut k5 F0, ns ++ [z], l - z - 1, _, _, upd_same, by rw [List.length_append, List.length_singleton]; omega, fun y hy => ?_, by omega, rfl⟩
        rcases List.mem_append.mp hy with h | h
        · exact hz y h
        · rw [List.mem_singleton] at h; omega
      refine ⟨_, rfl, rfl, _, rfl, ite2 (fun w1' => ?_) (fun w1' => ?_)⟩
      · exact tail _ 1 G hf (done 1 G (by decide) (by omega) (B.le (by omega)) kk)
      · have wz : way ≠ 0 := fun z => by
          have := of_decide_eq_false (Bool.eq_false_iff.mpr w1')
          exact this (by rw [z])
        obtain ⟨M, hM, M1, M2⟩ : ∃ M : Int, atI [V.int 1, .int l, .int (if (5 : Int) < l then 5 else l), .int (if (3 : Int) < l then 3 else l), .int (if (2 : Int) < l then 2 else l)] way = some (.int M) ∧ 1 ≤ M ∧ M ≤ l := by
          rcases (by omega : way = 1 ∨ way = 2 ∨ way = 3 ∨ way = 4) with rfl | rfl | rfl | rfl
          · exact ⟨_, rfl, by omega, by omega⟩
          · exact ⟨_, rfl, by split <;> omega, by split <;> omega⟩
          · exact ⟨_, rfl, by split <;> omega, by split <;> omega⟩
          · exact ⟨_, rfl, by split <;> omega, by split <;> omega⟩
        refine ⟨_, rfl, _, rfl, _, rfl, _, _, rfl, _, rfl, _, _, rfl, _, rfl, _, _, rfl, (by show 5 ≤ sizeLine; decide), fun L2 hL2 => ⟨_, rfl, _, _, _, _, rfl, rfl, SqL.of upd_same, hM, b, M, m, rfl, by omega, by omega, ?_, fun r H5 a0 a1 B5 k5' => ⟨_, _, rfl, rfl, ?_⟩⟩⟩
        · exact B.ex (Ex.new hL2)
        · have y3 := Ex.new (o := .lst [V.int 1, .int l, .int (if (5 : Int) < l then 5 else l), .int (if (3 : Int) < l then 3 else l), .int (if (2 : Int) < l then 2 else l)]) hL2
          exact tail _ (1 + r) H5 (k5' _ _ Fb (y3 _ _ hf)) (done (1 + r) H5 (by omega) (by omega) B5 ((kk.ex y3).trans k5'))
    · refine ⟨?_, kk.ex eg, ns, l, _, _, eg _ _ hf, by omega, hz, lb, rfl⟩
      rw [hm2]; exact (B.ex eg).le (by omega)
  · rintro σ H4 ⟨B4, k4, ns, l, v5, v6, hf, hl, hz, lb, rfl⟩
    exact ⟨_, rfl, q F ns H4 F0 hf ⟨hz, by omega⟩ (B4.le (by omega)) k4⟩
theorem same_sorted {ms cur : List Int} (so : cur.Pairwise (· < ·)) (pm : ms.Perm cur) (le : ms.Pairwise (· ≤ ·)) : ms = cur := by
  have nd : ms.Nodup := pm.symm.nodup (so.imp fun h => Int.ne_of_lt h)
  have lt : ms.Pairwise (· < ·) := (le.and nd).imp fun {a b} h => by
    have h1 := h.1; have h2 := h.2; omega
  exact (sub_sorted so lt fun z hz => pm.mem_iff.mp hz).eq_of_length pm.length_eq
theorem Pk.so {left cur ps : List Int} (p : Pk left cur ps) (so : left.Pairwise (· < ·)) : cur.Pairwise (· < ·) := by
  rw [p.stay]
  exact so.filter _
theorem ev_neRows {ta : TE} {σ : L2.St} {H : Hp} {F : Addr} {ts : List V} {rs : List (List Int)} (ha : Ev ta σ H (.ref F)) (hF : H F = some (.lst ts)) (r : RowsT H ts rs) (l : rs.length ≤ 900) (lc : ∀ c ∈ rs, c.length ≤ 900) : Ev (tOp (rNeD K) ta (tLst tNil)) σ H (.bl (flg false rs)) :=
  ev_opL ha (el_lst ea_nil (by decide)) fun p H1 hp e1 => rv_val fun H2 e2 Q k => by
    have e02 := e1.trans e2
    have rd : Rd K (fun _ => True) H2 2 (.ref F) (.list (rs.map rowD)) := .lst (e02 _ _ hF) trivial (by rw [List.length_map]; exact r.1) (by rw [r.1]; exact l) fun i x d hx hd => by
      rw [List.getElem?_map, Option.map_eq_some_iff] at hd
      obtain ⟨c, hc, rfl⟩ := hd
      obtain ⟨q, rfl, hq⟩ := (r.ex e02).2 i x c hx hc
      exact rd_row hq (lc c (List.mem_of_getElem? hc))
    refine ⟨.list (rs.map rowD), .list [], rd.dp, .lst (SqL.of (e2 _ _ hp)) .nil, rd.shaped (by decide), rfl, ?_⟩
    cases rs with
    | nil => exact k
    | cons x r => exact k
def spLDrawn : Sp := fun vs H Q _ => ∃ (b a s : Addr) (n : Nat) (ks ss : List Int), vs = [.ref b, .ref a, .ref s] ∧ BoxAt H b (n + 1 + ks.length) ∧ H a = some (.lst (ks.map V.int)) ∧ H s = some (.lst (ss.map V.int)) ∧ a ≠ b ∧ s ≠ b ∧ KOK ks ∧ SOK ss ∧
  ∀ p xs rs H', H p = none → H' p = some (.tup xs) → RowsT H' xs rs → ChR ks rs → BoxAt H' b n → But b H H' → Q (.ref p) H'
theorem q_asgM {i : Nat} {ta : TE} {rest : TS} {D : Ends} {σ : L2.St} {H : Hp} {M : V → Hp → Prop} (h : ∀ Q' : VK, (∀ v H', M v H' → Q' v H') → ta σ H Q') (k : ∀ v H', M v H' → rest D (σ.set i (some v)) H') : tSeq (tAsg ta (gName i)) rest D σ H := h _ k
theorem pop_at {R : Addr} {cur : List Int} {k : Nat} {H5 : Hp} {Q : VK} (h : H5 R = some (.lst (cur.map V.int))) (hk : k < cur.length) (hl : cur.length ≤ 16) (q : Q (.int cur[k]) (upd H5 R (.lst ((cur.eraseIdx k).map V.int)))) : rPopAt (.ref R) [.int (k : Int)] H5 Q := by
  refine ⟨R, _, (k : Int), k, .int cur[k], rfl, rfl, h, by omega, by omega, by rw [List.length_map]; exact seqIx hk, by rw [List.getElem?_map, List.getElem?_eq_getElem hk]; rfl, ?_⟩
  rw [eraseIdx_ints]
  exact q
def DrInv (b R D : Addr) (H H3 : Hp) (n : Nat) (ls : List Int) (j : Nat) (H' : Hp) : Prop := But b H H' ∧ But2 b R H3 H' ∧ ∃ (js cur : List Int), BoxAt H' b (n + cur.length) ∧ H' D = some (.lst (js.map V.int)) ∧ js.length = j ∧ H' R = some (.lst (cur.map V.int)) ∧ cur.length + j = ls.length ∧ Pk ls cur js
theorem ok_law_drawn (T : TK K mg) : FnOk P w K mg base CX0 2 T.law_drawn.a T.law_drawn.fd ["box", "wires", "sizes"] spLDrawn := by
  refine T.law_drawn.F.ok sc_law_drawn (fun vs H Q E h => ?_) (fun cdv A outer s H vs Q E hr h => ?_)
  · obtain ⟨b, a, s, n, ks, ss, rfl, _⟩ := h; rfl
  obtain ⟨b, a, s, n, ks, ss, rfl, hB, ha, hs, ab, sb, kk, sk, q⟩ := h
  refine ⟨_, (pss_cons (ps_asg (pe_tup (pa_cons (pe_callTy (klist K) (by rfl) T.z_list (by decide +kernel) (pa_cons (pv 1) pa_nil)) (pa_cons (pe_lst pa_nil) (pa_cons (pe_cmpR op_eq (pe_call (ok_law_take T.toTA1) (hr.mono (by decide)) rfl T.law_take.m T.law_take.F.kp T.law_take.b .nil pass0 (pa_cons (pv 0) (pa_cons pe_int pa_nil))) pe_int (nomark _)) pa_nil)))) (pg_tup (by rfl) (pgs_cons (pg_name (i := 3) sc_law_drawn.nd rfl (Or.inl rfl)) (pgs_cons (pg_name (i := 4) sc_law_drawn.nd rfl (Or.inl rfl)) (pgs_cons (pg_name (i := 5) sc_law_drawn.nd rfl (Or.inr rfl)) pgs_nil)))))
    (pss_cons (ps_for PassesOwn.never rfl (kpil K (pv 2)) (pg_name (i := 6) sc_law_drawn.nd rfl (Or.inl rfl)) (pss_cons (ps_set (i := 7) sc_law_drawn.nd rfl (Or.inr rfl) (pe_ifExp (pt_cmpR (kneD K hr.units) (pv 4) (pe_lst pa_nil) (nomark _)) (pe_slice (kslL K) (pv 3) (po_some pe_int) po_none) (pv 3)))
    (pss_one (ps_if (pt_cmpR op_le (pv 6) (pe_callB (klen K) (by rfl) T.z_len (by decide +kernel) (pa_cons (pv 7) pa_nil)) (nomark _)) (pss_cons (ps_setLc (i := 8) (own := [("turn", 9)]) (g := gName 9) (by rfl) sc_law_drawn.nd rfl rfl (sw_true rfl rfl rfl (by decide +kernel)) (pi_range1 rfl T.z_range (pa_cons (pv 6) pa_nil)) (blkOk_by (own := [("turn", 9)]) (N := ["box", "wires", "sizes", "left", "found", "least", "size", "rest", "one", "turn"]) (sc := defScope s_law_drawn) (by decide +kernel)) (fun _ _ _ _ _ => (pg_name (i := 9) sc_law_drawn.nd rfl (Or.inl rfl))) (fun _ _ _ _ _ => pts_nil) (fun _ _ _ _ _ => (pe_bmK K PySem.F.plainAttrs_list PySem.F.slot_list_pop PySem.F.type_list_pop mt_popAt (pv 7) (pa_cons (pe_ifExp (pt_val (pv 5)) pe_int (pe_call (ok_law_take T.toTA1) (hr.mono (by decide)) rfl T.law_take.m T.law_take.F.kp T.law_take.b .nil pass0 (pa_cons (pv 0) (pa_cons (pe_callB (klen K) (by rfl) T.z_len (by decide +kernel) (pa_cons (pv 7) pa_nil)) pa_nil)))) pa_nil))))
    (pss_cons (ps_expr (pe_bm PySem.F.plainAttrs_list PySem.F.slot_list_append PySem.F.type_list_append mt_append (pv 4) (pa_cons (pe_callTy (ktuple K) (by rfl) T.z_tuple (by decide +kernel) (pa_cons (pe_callB (ksorted K) (by rfl) T.z_sorted (by decide +kernel) (pa_cons (pv 8) pa_nil)) pa_nil)) pa_nil)))
    (pss_one (ps_set (i := 3) sc_law_drawn.nd rfl (Or.inl rfl) (pe_callB (ksorted K) (by rfl) T.z_sorted (by decide +kernel) (pa_cons (pv 7) pa_nil)))))) pss_nil))))
    (pss_one (ps_ret (pe_callTy (ktuple K) (by rfl) T.z_tuple (by decide +kernel) (pa_cons (pv 4) pa_nil)))))), ?_⟩
  have k16 := kk.l
  refine ⟨_, rfl, a, _, rfl, .inl (SqL.of ha), fun L0 hL0 => ⟨Nat.zero_le _, fun F hF => ?_⟩⟩
  have y1 := Ex.new (o := .lst (ks.map V.int)) hL0
  have y2 := Ex.new (o := .lst []) hF
  have F0 : H F = none := fresh_back y1 hF
  have Fb : F ≠ b := hB.ne F0
  have L0b : L0 ≠ b := hB.ne hL0
  have LF0 : L0 ≠ F := by
    rintro rfl
    rw [upd_same] at hF
    cases hF
  have y12 := y1.trans y2
  have i1 := y2 _ _ (upd_same (H := H) (a := L0) (o := .lst (ks.map V.int)))
  have i2 : (upd (upd H L0 (.lst (ks.map V.int))) F (.lst [])) F = some (.lst []) := upd_same
  generalize upd (upd H L0 (.lst (ks.map V.int))) F (.lst []) = H1 at y12 i1 i2 ⊢
  clear y1 y2
  refine ⟨_, rfl, b, 3, n + ks.length, rfl, by decide, by decide, (hB.ex y12).le (by omega), fun r H2 r0 r1 B2 k12 => ⟨rfl, (by show 3 ≤ sizeLine; decide), fun t0 ht0 => ⟨t0, _, rfl, SqT.of upd_same, rfl, _, _, rfl, _, _, rfl, _, _, rfl, rfl, ?_⟩⟩⟩
  have y3 := Ex.new (o := .tup [.ref L0, .ref F, .bl (decide (V.int r = V.int 0))]) ht0
  have i1 := y3 _ _ (k12 _ _ L0b i1)
  have i2 := y3 _ _ (k12 _ _ Fb i2)
  have B3 := B2.ex y3
  have k3 := (But.pre y12 k12).ex y3
  generalize decide (V.int r = V.int 0) = least at i1 i2 B3 k3 ⊢
  generalize upd H2 t0 (.tup [.ref L0, .ref F, .bl least]) = H3 at i1 i2 B3 k3 ⊢
  refine ⟨_, rfl, s, rfl, ⟨_, SqL.of (k3 _ _ sb hs)⟩, for_list (xs := ss.map V.int) (fun i σ H' => But b H H' ∧ ∃ (rs : List (List Int)) (ts : List V) (Lp : Addr) (L : List Int) (v6 v7 v8 : Option V), σ = [some (.ref b), some (.ref a), some (.ref s), some (.ref Lp), some (.ref F), some (.bl least), v6, v7, v8, none] ∧ BoxAt H' b (n + L.length) ∧ H' F = some (.lst ts) ∧ RowsT H' ts rs ∧ ChR ks rs ∧ L = chainL false ks rs ∧ L.length ≤ 16 ∧ L.Pairwise (· < ·) ∧ H' Lp = some (.lst (L.map V.int)) ∧ H Lp = none ∧ Lp ≠ F)
    ⟨k3, [], [], L0, ks, _, _, _, rfl, B3, i2, RowsT.nil, trivial, rfl, k16, kk.so, i1, hL0, LF0⟩
    (fun i σ H' _ p => SqL.of (p.1 _ _ sb hs)) ?_ ?_⟩
  · rintro i x σ H1 hx ⟨k1, rs, ts, Lp, L, v6, v7, v8, rfl, B1, hf, rt, ch, eL, l16, Lso, hLp, Lp0, LF⟩
    obtain ⟨z, hzi, rfl⟩ := ints_get hx
    have zb := sk.b z (List.mem_of_getElem? hzi)
    have Lpb : Lp ≠ b := hB.ne Lp0
    obtain ⟨l1, l2⟩ := chr_len rs ks kk.nd ch
    refine gn_ ?_
    refine q_asgM (M := fun v G => ∃ R, v = .ref R ∧ Ex H1 G ∧ G R = some (.lst ((restP (flg false rs) L).map V.int)) ∧ H R = none ∧ R ≠ F) (fun Q' k => ?_) ?_
    · refine (et_test (ev_neRows (K := K) (ta := tVar 4) (σ := [some (.ref b), some (.ref a), some (.ref s), some (.ref Lp), some (.ref F), some (.bl least), some (.int z), v7, v8, none]) (ev_var rfl) hf rt (by omega) fun c hc => by have := l2 c hc; omega)) H1 (Ex.refl _) _ fun G e => ?_
      cases hfl : flg false rs with
      | true =>
        refine iteT ((el_sl (ev_var rfl) (eo_some (i := ((1 : Nat) : Int)) ev_c) eo_none (SqL.of (e _ _ hLp)) : EvL (tSl (rSlL K) (tVar 3) (tPart (tC (.int 1))) tNoPart) _ G (cutV (L.map V.int) (some ((1 : Nat) : Int)) none)) G (Ex.refl _) _ fun R G3 hR e3 h3 => k _ _ ⟨R, rfl, e.trans e3, ?_, but_fresh (k1.ex e) hB (B1.ex e) hR, ne_of_none' (e _ _ hf) hR⟩)
        rw [cut_from] at h3
        rw [hfl, restP_t, List.map_drop]
        exact h3
      | false =>
        exact iteF ⟨_, rfl, k _ _ ⟨Lp, rfl, e, by rw [hfl]; exact e _ _ hLp, Lp0, LF⟩⟩
    rintro v G ⟨R, rfl, eG, hR, R0, RF⟩
    have rso : (restP (flg false rs) L).Pairwise (· < ·) := restP_so Lso
    have rln : (restP (flg false rs) L).length ≤ L.length := restP_len
    have kG := k1.ex eG
    have BG := B1.ex eG
    have hfG := eG _ _ hf
    have rtG := rt.ex eG
    have Rb : R ≠ b := hB.ne R0
    refine ⟨_, rfl, _, rfl, _, _, rfl, .inl ⟨_, SqL.of hR, rfl⟩, _, _, rfl, rfl, _, rfl, ite2 (fun c => ?_) (fun c => ?_)⟩
    · have c' : z ≤ ((((restP (flg false rs) L).map V.int).length : Nat) : Int) := of_decide_eq_true c
      rw [List.length_map] at c'
      have cs := chr_snoc rs false ks
      have csn := chainL_snoc rs false ks
      rw [← eL] at cs csn
      have ch' : ChR (restP false ks) rs := ch
      generalize restP (flg false rs) L = ls at c' cs csn hR rso rln
      have hll : ls.length ≤ 16 := by omega
      obtain ⟨bs, hbs⟩ := box_list BG
      refine ⟨_, rfl, z, rfl, by omega, by omega, fun D hD => ?_⟩
      have DF : D ≠ F := ne_of_none' hfG hD
      have DR : D ≠ R := ne_of_none' hR hD
      have Db : D ≠ b := BG.ne hD
      have D0 : H D = none := but_fresh kG hB BG hD
      refine lc_range (lo := 0) (n := z.toNat) (DrInv b R D H G n ls) ⟨kG.ex (Ex.new hD), But2.mut (fun a o _ _ h => h) hD, [], ls, (BG.ex (Ex.new hD)).le (by omega), upd_same, rfl, (Ex.new hD) _ _ hR, rfl, .start⟩ ?_ ?_
      · rintro j H' hj ⟨kj, k22, js, cur, B, hd, lj, hr', lr', pk⟩
        have cl1 : 1 ≤ cur.length := by omega
        have tail : ∀ (k : Nat) (H5 : Hp), k < cur.length → BoxAt H5 b (n + (cur.length - 1)) → But b H' H5 → rPopAt (.ref R) [.int (k : Int)] H5 fun y H4 => ∃ acc, H4 D = some (.lst acc) ∧ acc.length < sizeLine ∧ DrInv b R D H G n ls (j + 1) (upd H4 D (.lst (acc ++ [y]))) := fun k H5 hkl B5 k5 => by
          refine pop_at (k := k) (k5 _ _ Rb hr') hkl (by omega) ?_
          have hd5 := k5 _ _ Db hd
          have el' : (cur.eraseIdx k).length = cur.length - 1 := by rw [List.length_eraseIdx, if_pos hkl]
          refine ⟨_, by rw [upd_ne DR]; exact hd5, small1000 (by rw [List.length_map]; omega), ?_⟩
          refine ⟨but_mut (but_mut (kj.trans k5) R0) D0, But2.mut ((k22.trans (.of k5)).trans But2.put) hD, js ++ [cur[k]], cur.eraseIdx k, ?_, by rw [upd_same, List.map_append]; rfl, by rw [List.length_append, lj]; rfl, by rw [upd_ne DR.symm, upd_same], by omega, pk.pick (rso.imp fun h => Int.ne_of_lt h) (List.getElem?_eq_getElem hkl)⟩
          rw [el']
          exact box_upd (box_upd B5 Rb) Db
        refine ⟨rfl, tyes ?_⟩
        refine ⟨_, rfl, .inl ⟨rfl, _, SqL.of hr'⟩, _, rfl, _, rfl, ?_⟩
        cases least with
        | true =>
          refine iteT ?_
          exact tail 0 H' (by omega) (B.le (by omega)) (But.of (Ex.refl _))
        | false =>
          obtain ⟨m, hm⟩ : ∃ m, n + cur.length = m + 1 := ⟨n + cur.length - 1, by omega⟩
          rw [hm] at B
          refine iteF ⟨_, rfl, _, rfl, _, _, rfl, .inl ⟨_, SqL.of hr', rfl⟩, b, _, m, rfl, by rw [List.length_map]; omega, by rw [List.length_map]; omega, B, fun r H5 a0 a1 B5 k5 => ?_⟩
          rw [List.length_map] at a1
          obtain ⟨k, rfl⟩ : ∃ k : Nat, r = (k : Int) := ⟨r.toNat, by omega⟩
          have hm3 : n + (cur.length - 1) = m := by omega
          exact tail k H5 (by omega) (by rw [hm3]; exact B5) k5
      · rintro H4 ⟨k4, k22, js, cur, B4, hd, lj, hr', lr', pk⟩
        have hf4 := k22 _ _ Fb RF.symm hfG
        have rt4 := rowsT_but2 rtG hbs hR k22
        refine ⟨_, rfl, .inl ⟨rfl, _, SqL.of hf4⟩, _, rfl, D, js, rfl, SqL.of hd, by omega, fun ms p perm le hp => ?_⟩
        have f1 := Ex.new (o := .lst (ms.map V.int)) hp
        refine ⟨p, _, rfl, .inl ⟨SqL.of upd_same, fun t ht => ?_⟩⟩
        have f2 := Ex.new (o := .tup (ms.map V.int)) ht
        have f12 := f1.trans f2
        have ml := perm.length_eq
        obtain ⟨sub, beh⟩ := pk.done rso perm le
        have cso := pk.so rso
        have ut : upd (upd H4 p (.lst (ms.map V.int))) t (.tup (ms.map V.int)) t = some (.tup (ms.map V.int)) := upd_same
        have B6 := B4.ex f12
        have k6 := k4.ex f12
        have hf6 := f12 _ _ hf4
        have hr6 := f12 _ _ hr'
        have rt6 := rt4.ex f12
        generalize upd (upd H4 p (.lst (ms.map V.int))) t (.tup (ms.map V.int)) = H6 at *
        have tl := rt.1
        refine ⟨F, _, _, rfl, rfl, hf6, small1000 (by omega), ?_⟩
        have hr7 : (upd H6 F (.lst (ts ++ [.ref t]))) R = some (.lst (cur.map V.int)) := by rw [upd_ne RF]; exact hr6
        have B7 := box_upd (o := .lst (ts ++ [.ref t])) B6 Fb
        have k7 := but_mut (o := .lst (ts ++ [.ref t])) k6 F0
        have hf7 : (upd H6 F (.lst (ts ++ [.ref t]))) F = some (.lst (ts ++ [.ref t])) := upd_same
        have rt7 := (rt6.snoc ut).mut (zs := ts ++ [.ref t]) hf6
        generalize upd H6 F (.lst (ts ++ [.ref t])) = H7 at hr7 B7 k7 hf7 rt7 ⊢
        refine ⟨_, rfl, R, cur, rfl, SqL.of hr7, by omega, fun ms2 p2 perm2 le2 hp2 => ?_⟩
        have e2 := same_sorted cso perm2 le2
        subst e2
        have f8 := Ex.new (o := .lst (ms2.map V.int)) hp2
        refine ⟨k7.ex f8, rs ++ [ms], ts ++ [.ref t], p2, ms2, _, _, _, rfl, B7.ex f8, f8 _ _ hf7, rt7.ex f8, cs ms ch' sub (by omega), ?_, by omega, cso, upd_same, but_fresh k7 hB B7 hp2, ne_of_none' hf7 hp2⟩
        rw [csn, beh]
    · exact ⟨kG, rs, ts, Lp, L, _, _, _, rfl, BG, hfG, rtG, ch, eL, l16, Lso, eG _ _ hLp, Lp0, LF⟩
  · rintro σ H1 ⟨k1, rs, ts, Lp, L, v6, v7, v8, rfl, B1, hf, rt, ch, eL, l16, Lso, hLp, Lp0, LF⟩
    refine ⟨_, rfl, F, _, rfl, .inl ⟨SqL.of hf, fun t ht => ?_⟩⟩
    have f := Ex.new (o := .tup ts) ht
    exact q t ts rs _ (but_fresh k1 hB B1 ht) upd_same (rt.ex f) ch ((B1.ex f).le (by omega)) (k1.ex f)
end
end L2.U


set_option Elab.async false
set_option linter.all false
set_option maxRecDepth 100000
set_option maxHeartbeats 4000000
namespace L2.U
open PySem PySem.Spec PyProof.Rows Evl

section
variable {P : Program} {w : World} {K : PySem.W.Frag} {mg : Str → Option Value} {base : Heap}
def Fr (H : Hp) : Addr → Prop := fun a => H a = none
theorem q_parM {i j : Nat} {ta tb : TE} {rest : TS} {D : Ends} {σ : L2.St} {H : Hp} {M : V → Hp → Prop} (h : ∀ Q' : VK, (∀ v H', M v H' → Q' v H') → ta σ H Q') (k : ∀ v H', M v H' → tCons tb tNil σ H' (fun vs H2 => ∃ x y, v :: vs = [x, y] ∧ rest D ((σ.set i (some x)).set j (some y)) H2)) : tSeq (tPar i j (tCons ta (tCons tb tNil))) rest D σ H := h _ k
/-- what gives a question -/
def EvQ (ok : Addr → Prop) (te : TE) (σ : L2.St) (H : Hp) : Prop := ∀ H0, Ex H H0 → ∀ Q : VK, (∀ t H1, Ex H0 H1 → AskAt ok H1 t → Q (.ref t) H1) → te σ H0 Q
theorem evq {ok : Addr → Prop} {ta : TA} {σ : L2.St} {H : Hp} {kind : Int} {xs : List V} (h : EvA ta σ H xs) (l : xs.length ≤ 3) (a : ∀ H', Ex H H' → AskQ ok H' kind xs) : EvQ ok (tTup (tCons (tC (.int kind)) (tCons (tTup ta) tNil))) σ H := fun H0 e Q q =>
  h H0 e _ fun H1 e1 => ⟨sz_of (by omega), fun vt hv => ⟨two_le, fun t ht => by
    have f1 := Ex.new (o := .tup xs) hv
    have f2 := Ex.new (o := .tup [.int kind, .ref vt]) ht
    exact q t _ ((e1.trans f1).trans f2) ⟨kind, vt, xs, upd_same, f2 _ _ upd_same, a _ (((e.trans e1).trans f1).trans f2)⟩⟩⟩
theorem EvQ.mono {ok : Addr → Prop} {te : TE} {σ : L2.St} {H H' : Hp} (h : EvQ ok te σ H) (e : Ex H H') : EvQ ok te σ H' := fun H0 e0 Q q => h H0 (e.trans e0) Q q
def EvQA (ok : Addr → Prop) (ta : TA) (σ : L2.St) (H : Hp) (m : Nat) : Prop := ∀ H0, Ex H H0 → ∀ Q : List V → Hp → Prop, (∀ (ts : List Addr) H1, Ex H0 H1 → (∀ t ∈ ts, AskAt ok H1 t) → ts.length = m → Q (ts.map V.ref) H1) → ta σ H0 Q
theorem eqa_nil {ok : Addr → Prop} {σ : L2.St} {H : Hp} : EvQA ok tNil σ H 0 := fun H0 _ Q k => k [] H0 (Ex.refl _) (fun t ht => by cases ht) rfl
theorem eqa_cons {ok : Addr → Prop} {te : TE} {ta : TA} {σ : L2.St} {H : Hp} {m : Nat} (h : EvQ ok te σ H) (r : EvQA ok ta σ H m) : EvQA ok (tCons te ta) σ H (m + 1) := fun H0 e Q k =>
  h H0 e _ fun t H1 e1 a => r H1 (e.trans e1) _ fun ts H2 e2 all l => k (t :: ts) H2 (e1.trans e2) (fun u hu => by
    rcases List.mem_cons.mp hu with rfl | hu
    · exact a.ex e2
    · exact all u hu) (by rw [List.length_cons, l])
theorem q_qs {ok : Addr → Prop} {ta : TA} {σ : L2.St} {H : Hp} {rest : TS} {D : Ends} {i m : Nat} (h : EvQA ok ta σ H m) (hm : m ≤ 400) (k : ∀ (ts : List Addr) H9 F, Ex H H9 → (∀ t ∈ ts, AskAt ok H9 t) → ts.length = m → H9 F = none → rest D (σ.set i (some (.ref F))) (upd H9 F (.lst (ts.map V.ref)))) :
    tSeq (tAsg (tLst ta) (gName i)) rest D σ H := h H (Ex.refl _) _ fun ts H9 e all l => ⟨sz_of (by rw [List.length_map]; omega), fun F hF => k ts H9 F e all l hF⟩
theorem el_repL {ta tb : TE} {σ : L2.St} {H : Hp} {xs : List V} {n : Int} (ha : EvL ta σ H xs) (hb : ∀ H1, Ex H H1 → Ev tb σ H1 (.int n)) (h1 : -(2 ^ 63) ≤ n) (h2 : n < 2 ^ 63) (hz : xs.length * n.toNat ≤ 100000) : EvL (tOp rRep ta tb) σ H (List.replicate n.toNat xs).flatten := fun H1 e Q q =>
  ha H1 e _ fun p H2 hp e2 h3 => hb H2 (e.trans e2) H2 (Ex.refl _) _ fun H3 e3 => ⟨p, n, xs, rfl, rfl, e3 _ _ h3, h1, h2, sz_of hz, fun l hl => q l _ (fresh_back (e2.trans e3) hl) ((e2.trans e3).trans (Ex.new hl)) upd_same⟩
def spLAsked : Sp := fun vs H Q _ => ∃ (b : Addr) (n c : Nat), vs = [.ref b, .int (c : Int)] ∧ c ≤ 16 ∧ BoxAt H b (n + 80) ∧ ∀ p (ts : List Addr) H', H p = none → H' p = some (.lst (ts.map V.ref)) → ts.length = 11 → (∀ t ∈ ts, AskAt (Fr H) H' t) → BoxAt H' b n → But b H H' → Q (.ref p) H'
theorem ok_law_asked (T : TK K mg) : FnOk P w K mg base CX0 3 T.law_asked.a T.law_asked.fd ["box", "count"] spLAsked := by
  refine T.law_asked.F.ok sc_law_asked (fun vs H Q E h => ?_) (fun cdv A outer s H vs Q E hr h => ?_)
  · obtain ⟨b, n, c, rfl, _⟩ := h; rfl
  obtain ⟨b, n, c, rfl, hc, hB, q⟩ := h
  refine ⟨_, (pss_cons (ps_par (i := 2) (j := 3) (by rfl) sc_law_asked.nd rfl rfl (by decide) rfl rfl (pa_cons (pe_call (ok_law_wires T) (hr.mono (by decide)) rfl T.law_wires.m T.law_wires.F.kp T.law_wires.b .nil pass0 (pa_cons (pv 0) (pa_cons (pv 1) pa_nil))) (pa_cons (pe_call (ok_law_sizes T) (hr.mono (by decide)) rfl T.law_sizes.m T.law_sizes.F.kp T.law_sizes.b .nil pass0 (pa_cons (pv 0) (pa_cons (pv 1) pa_nil))) pa_nil)) (by rfl))
    (pss_cons (ps_par (i := 4) (j := 5) (by rfl) sc_law_asked.nd rfl rfl (by decide) rfl rfl (pa_cons (pe_call (ok_law_many T) (hr.mono (by decide)) rfl T.law_many.m T.law_many.F.kp T.law_many.b .nil pass0 (pa_cons (pv 1) (pa_cons (pv 3) pa_nil))) (pa_cons pe_int pa_nil)) (by rfl))
    (pss_cons (ps_for PassesOwn.never rfl (pi_range1 rfl T.z_range (pa_cons pe_int pa_nil)) (pg_name (i := 6) sc_law_asked.nd rfl (Or.inl rfl)) (pss_one (ps_set (i := 5) sc_law_asked.nd rfl (Or.inl rfl) (pe_op op_add (pe_op op_mul (pv 5) pe_int) (pe_call (ok_law_take T.toTA1) (hr.mono (by decide)) rfl T.law_take.m T.law_take.F.kp T.law_take.b .nil pass0 (pa_cons (pv 0) (pa_cons pe_int pa_nil)))))))
    (pss_cons (ps_par3 (i := 7) (j := 8) (l := 9) (by rfl) sc_law_asked.nd rfl rfl rfl (by decide) (by decide) (by decide) rfl rfl rfl (pa_cons (pe_call (ok_law_drawn T) (hr.mono (by decide)) rfl T.law_drawn.m T.law_drawn.F.kp T.law_drawn.b .nil pass0 (pa_cons (pv 0) (pa_cons (pv 2) (pa_cons (pv 3) pa_nil)))) (pa_cons (pe_call (ok_law_drawn T) (hr.mono (by decide)) rfl T.law_drawn.m T.law_drawn.F.kp T.law_drawn.b .nil pass0 (pa_cons (pv 0) (pa_cons (pv 2) (pa_cons (pe_op op_rep (pe_lst (pa_cons pe_int pa_nil)) pe_int) pa_nil)))) (pa_cons (pe_cmpR op_eq (pe_call (ok_law_take T.toTA1) (hr.mono (by decide)) rfl T.law_take.m T.law_take.F.kp T.law_take.b .nil pass0 (pa_cons (pv 0) (pa_cons pe_int pa_nil))) pe_int (nomark _)) pa_nil))) (by rfl))
    (pss_cons (ps_par (i := 10) (j := 11) (by rfl) sc_law_asked.nd rfl rfl (by decide) rfl rfl (pa_cons (pe_ifExp (pt_val (pv 9)) (pe_tup (pa_cons (pe_callTy (ktuple K) (by rfl) T.z_tuple (by decide +kernel) (pa_cons (pv 2) pa_nil)) (pa_cons (pe_callTy (ktuple K) (by rfl) T.z_tuple (by decide +kernel) (pa_cons (pv 3) pa_nil)) pa_nil))) (pe_tup (pa_cons (pv 2) (pa_cons (pv 3) pa_nil)))) (pa_cons (pe_op op_mod (pe_callTy call_int1 (by rfl) T.z_int (by decide +kernel) (pa_cons (pv 5) pa_nil)) (pe_callB (call_max2 rfl) (by rfl) T.z_max (by decide +kernel) (pa_cons pe_int (pa_cons (pv 4) pa_nil)))) pa_nil)) (by rfl))
    (pss_cons (ps_set (i := 12) sc_law_asked.nd rfl (Or.inl rfl) (pe_lst (pa_cons (pe_tup (pa_cons pe_int (pa_cons (pe_tup (pa_cons (pv 1) (pa_cons (pe_ix (kixt K) (pv 10) pe_int (fun _ _ => rfl)) pa_nil))) pa_nil))) (pa_cons (pe_tup (pa_cons pe_int (pa_cons (pe_tup (pa_cons (pv 7) (pa_cons (pe_ix (kixt K) (pv 10) pe_int (fun _ _ => rfl)) pa_nil))) pa_nil))) (pa_cons (pe_tup (pa_cons pe_int (pa_cons (pe_tup (pa_cons (pv 7) (pa_cons (pe_ix (kixt K) (pv 10) pe_int (fun _ _ => rfl)) pa_nil))) pa_nil))) (pa_cons (pe_tup (pa_cons pe_int (pa_cons (pe_tup (pa_cons (pv 8) (pa_cons (pe_ix (kixt K) (pv 10) pe_int (fun _ _ => rfl)) pa_nil))) pa_nil))) (pa_cons (pe_tup (pa_cons pe_int (pa_cons (pe_tup (pa_cons (pv 8) (pa_cons (pe_ix (kixt K) (pv 10) pe_int (fun _ _ => rfl)) pa_nil))) pa_nil))) pa_nil)))))))
    (pss_cons (ps_for PassesOwn.never rfl (kpil K (pe_lst (pa_cons (pv 11) (pa_cons pe_int (pa_cons (pe_op op_sub (pv 4) pe_int) (pa_cons (pv 4) (pa_cons (pe_un un_neg pe_int) (pa_cons (pe_op op_add (pv 4) (pv 5)) pa_nil)))))))) (pg_name (i := 13) sc_law_asked.nd rfl (Or.inl rfl)) (pss_one (ps_expr (pe_bm PySem.F.plainAttrs_list PySem.F.slot_list_append PySem.F.type_list_append mt_append (pv 12) (pa_cons (pe_tup (pa_cons pe_int (pa_cons (pe_tup (pa_cons (pv 13) (pa_cons (pe_ix (kixt K) (pv 10) pe_int (fun _ _ => rfl)) (pa_cons (pe_ix (kixt K) (pv 10) pe_int (fun _ _ => rfl)) pa_nil)))) pa_nil))) pa_nil)))))
    (pss_one (ps_ret (pv 12)))))))))), ?_⟩
  refine ⟨_, rfl, _, rfl, b, n + 63, c, rfl, hc, hB.le (by omega), fun pk ks H1 pk0 hk1 lk kk B1 k1 => ⟨_, rfl, _, rfl, b, n + 45, c, rfl, hc, B1, fun ps ss H2 ps1 hs2 sk B2 k12 => ⟨_, _, rfl, ?_⟩⟩⟩
  have k2 := k1.trans k12
  have ps0 : H ps = none := but_fresh k1 hB B1 ps1
  have pkb := hB.ne pk0
  have psb := hB.ne ps0
  have hk2 := k12 _ _ pkb hk1
  refine ⟨_, rfl, _, rfl, (c : Int), ps, ss, rfl, .inl (SqL.of hs2), by omega, sk.b, ⟨_, _, rfl, ?_⟩⟩
  generalize manyI (c : Int) ss 1 = many
  refine ⟨4, rfl, by decide, by decide, for_range (lo := 0) (n := (4 : Int).toNat) (fun i σ H' => BoxAt H' b (n + 45 - i) ∧ But b H2 H' ∧ ∃ (num : Int) (v6 : Option V), 0 ≤ num ∧ σ = [some (.ref b), some (.int (c : Int)), some (.ref pk), some (.ref ps), some (.int many), some (.int num), v6, none, none, none, none, none, none, none])
    ⟨B2, But.of (Ex.refl _), 0, _, by decide, rfl⟩ ?_ ?_⟩
  · rintro i σ H' hi ⟨B, kj, num, v6, n0, rfl⟩
    have hi4 : i < 4 := hi
    obtain ⟨m, hm⟩ : ∃ m, n + 45 - i = m + 1 := ⟨n + 45 - i - 1, by omega⟩
    have hm2 : n + 45 - (i + 1) = m := by omega
    rw [hm] at B
    refine ⟨_, rfl, _, _, rfl, rfl, .inr ⟨by decide, by decide⟩, _, rfl, b, 20011, m, rfl, by decide, by decide, B, fun r H5 a0 a1 B5 k5 => ⟨_, _, rfl, rfl, ?_⟩⟩
    refine ⟨by rw [hm2]; exact B5, kj.trans k5, num * 20011 + r, _, ?_, rfl⟩
    have := Int.mul_nonneg n0 (by decide : (0 : Int) ≤ 20011)
    omega
  rintro σ H3 ⟨B3, k23, num, v6, n0, rfl⟩
  have k3 := k2.trans k23
  have hk3 := k23 _ _ pkb hk2
  have hs3 := k23 _ _ psb hs2
  have n4 : n + 45 - (4 : Int).toNat = n + 41 := rfl
  rw [n4] at B3
  refine ⟨_, rfl, _, rfl, _, rfl, b, pk, ps, n + 24, ks, ss, rfl, B3.le (by omega), hk3, hs3, pkb, psb, kk, sk, fun pr xs rs H4 pr3 hr4 rr ch B4 k34 => ?_⟩
  have k4 := k3.trans k34
  have pr0 : H pr = none := but_fresh k3 hB B3 pr3
  have prb := hB.ne pr0
  have hk4 := k34 _ _ pkb hk3
  have hs4 := k34 _ _ psb hs3
  obtain ⟨bs4, hbs4⟩ := box_list B4
  refine ⟨_, rfl, _, rfl, (el_repL (n := 9) (xs := [.int 1]) (el_lst (ea_cons ev_c ea_nil) (by decide)) (fun _ _ => ev_c) (by decide) (by decide) (by decide) : EvL (tOp rRep (tLst (tCons (tC (.int 1)) tNil)) (tC (.int 9))) _ H4 _) H4 (Ex.refl _) _ fun pn H4' pn4 e44 hpn => ?_⟩
  have pnb := B4.ne pn4
  have B4' := B4.ex e44
  have k4' := k4.ex e44
  have kA := But.of (b := b) e44
  refine ⟨b, pk, pn, n + 7, ks, List.replicate 9 1, rfl, B4'.le (by omega), e44 _ _ hk4, hpn, pkb, pnb, kk, ⟨by decide, by decide⟩, fun pm xs2 rs2 H4b pm3 hm4 rm chm B4b k4b => ?_⟩
  have k44 := kA.trans k4b
  have k5' := k4.trans k44
  have pm0 : H pm = none := but_fresh k4' hB B4' pm3
  have pmb := hB.ne pm0
  have rr4b := rowsT_but rr hbs4 k44
  obtain ⟨bs5, hbs5⟩ := box_list B4b
  refine ⟨_, rfl, b, 3, n + 6, rfl, by decide, by decide, B4b, fun r H5 r0 r1 B5 k45' => ⟨rfl, ⟨_, _, _, rfl, ?_⟩⟩⟩
  have k45 := k44.trans k45'
  have k5 := k4.trans k45
  have hk5 := k45 _ _ pkb hk4
  have hs5 := k45 _ _ psb hs4
  have hr5 := k45 _ _ prb hr4
  have hm5 := k45' _ _ pmb hm4
  have rr5 := rowsT_but rr4b hbs5 k45'
  have rm5 := rowsT_but rm hbs5 k45'
  clear hs3 hk3 hk2 hs2 hr4 rr rr4b hm4 rm hk4 hs4
  dsimp only
  refine q_parM (M := fun v G => ∃ h x y, v = .ref h ∧ Ex H5 G ∧ G h = some (.tup [.ref x, .ref y]) ∧ SqI G x ks ∧ SqI G y ss ∧ H x = none ∧ H y = none) (fun Q' k => ?_) ?_
  · refine ⟨_, rfl, _, rfl, ite2 (fun _ => ?_) (fun _ => ?_)⟩
    · refine ⟨_, rfl, pk, _, rfl, .inl ⟨SqL.of hk5, fun t1 ht1 => ?_⟩⟩
      have f1 := Ex.new (o := .tup (ks.map V.int)) ht1
      refine ⟨_, rfl, ps, _, rfl, .inl ⟨SqL.of (f1 _ _ hs5), fun t2 ht2 => ⟨two_le, fun t3 ht3 => ?_⟩⟩⟩
      have f2 := Ex.new (o := .tup (ss.map V.int)) ht2
      have f3 := Ex.new (o := .tup [.ref t1, .ref t2]) ht3
      exact k _ _ ⟨t3, t1, t2, rfl, (f1.trans f2).trans f3, upd_same, .inr (f3 _ _ (f2 _ _ upd_same)), .inr (f3 _ _ upd_same), but_fresh k5 hB B5 ht1, but_fresh k5 hB B5 (fresh_back f1 ht2)⟩
    · refine ⟨_, rfl, _, rfl, two_le, fun t3 ht3 => ?_⟩
      have f3 := Ex.new (o := .tup [.ref pk, .ref ps]) ht3
      exact k _ _ ⟨t3, pk, ps, rfl, f3, upd_same, .inl (f3 _ _ hk5), .inl (f3 _ _ hs5), pk0, ps0⟩
  rintro v H6 ⟨h, x, y, rfl, e56, hh, hx, hy, x0, y0⟩
  have B6 := B5.ex e56
  have k6 := k5.ex e56
  have hr6 := e56 _ _ hr5
  have rr6 := rr5.ex e56
  have hm6 := e56 _ _ hm5
  have rm6 := rm5.ex e56
  have mx : ∀ σ : L2.St, σ[5]? = some (some (.int num)) → σ[4]? = some (some (.int many)) → Ev (tOp (rI (fun _ j => 0 < j) fun i j => .int (i % j)) (tCB (fun xs H Q => (∃ i, xs = [V.int i] ∧ Q (V.int i) H) ∨ ∃ k, xs = [V.bl k] ∧ Q (V.int (if k = true then 1 else 0)) H) (tCons (tVar 5) tNil)) (tCB (fun xs H Q => ∃ i j, xs = [V.int i, V.int j] ∧ Q (V.int (if j > i then j else i)) H) (tCons (tC (V.int 1)) (tCons (tVar 4) tNil)))) σ H6 (.int (num % (if many > 1 then many else 1))) := fun σ h5 h4 =>
    ev_op (ev_cb (ea_cons (ev_var h5) ea_nil) (fun H1 _ Q q => .inl ⟨_, rfl, q H1 (Ex.refl _)⟩)) (ev_cb (ea_cons ev_c (ea_cons (ev_var h4) ea_nil)) (fun H1 _ Q q => ⟨_, _, rfl, q H1 (Ex.refl _)⟩)) (rv_I (by split <;> omega))
  refine mx _ rfl rfl H6 (Ex.refl _) _ fun H7 e67 => ⟨_, _, rfl, ?_⟩
  generalize num % (if many > 1 then many else 1) = some_
  have hh7 := e67 _ _ hh
  have hx7 := hx.ex e67
  have hy7 := hy.ex e67
  have hr7 := e67 _ _ hr6
  have rr7 := rr6.ex e67
  have hm7 := e67 _ _ hm6
  have rm7 := rm6.ex e67
  have B7 := B6.ex e67
  have k7 := k6.ex e67
  clear hh hx hy hr6 rr6 B6 k6 hr5 rr5 hk5 hs5
  have ix0 : ∀ {σ : L2.St} {G : Hp}, σ[10]? = some (some (.ref h)) → Ex H7 G → Ev (tOp (rIxT K) (tVar 10) (tC (.int 0))) σ G (.ref x) := fun h9 e => ev_op (ev_var h9) ev_c (rv_ixT (SqT.of (e _ _ hh7)) rfl)
  have ix1 : ∀ {σ : L2.St} {G : Hp}, σ[10]? = some (some (.ref h)) → Ex H7 G → Ev (tOp (rIxT K) (tVar 10) (tC (.int 1))) σ G (.ref y) := fun h9 e => ev_op (ev_var h9) ev_c (rv_ixT (SqT.of (e _ _ hh7)) rfl)
  have q1 := evq (ok := Fr H) (ta := tCons (tVar 1) (tCons (tOp (rIxT K) (tVar 10) (tC (V.int 1))) tNil)) (σ := [some (.ref b), some (.int (c : Int)), some (.ref pk), some (.ref ps), some (.int many), some (.int num), v6, some (.ref pr), some (.ref pm), some (.bl (decide (V.int r = V.int 0))), some (.ref h), some (.int some_), none, none]) (H := H7) (kind := 0) (xs := [.int (c : Int), .ref y]) (ea_cons (ev_var rfl) (ea_cons (ix1 rfl (Ex.refl _)) ea_nil)) (by show 2 ≤ 3; decide) (fun G e => .many hc (hy7.ex e) y0 sk)
  have q2 := evq (ok := Fr H) (ta := tCons (tVar 7) (tCons (tOp (rIxT K) (tVar 10) (tC (V.int 0))) tNil)) (σ := [some (.ref b), some (.int (c : Int)), some (.ref pk), some (.ref ps), some (.int many), some (.int num), v6, some (.ref pr), some (.ref pm), some (.bl (decide (V.int r = V.int 0))), some (.ref h), some (.int some_), none, none]) (H := H7) (kind := 3) (xs := [.ref pr, .ref x]) (ea_cons (ev_var rfl) (ea_cons (ix0 rfl (Ex.refl _)) ea_nil)) (by show 2 ≤ 3; decide) (fun G e => .rank (by decide) (e _ _ hr7) (rr7.ex e) (hx7.ex e) x0 kk ch)
  have q3 := evq (ok := Fr H) (ta := tCons (tVar 7) (tCons (tOp (rIxT K) (tVar 10) (tC (V.int 0))) tNil)) (σ := [some (.ref b), some (.int (c : Int)), some (.ref pk), some (.ref ps), some (.int many), some (.int num), v6, some (.ref pr), some (.ref pm), some (.bl (decide (V.int r = V.int 0))), some (.ref h), some (.int some_), none, none]) (H := H7) (kind := 2) (xs := [.ref pr, .ref x]) (ea_cons (ev_var rfl) (ea_cons (ix0 rfl (Ex.refl _)) ea_nil)) (by show 2 ≤ 3; decide) (fun G e => .rank (by decide) (e _ _ hr7) (rr7.ex e) (hx7.ex e) x0 kk ch)
  have q4 := evq (ok := Fr H) (ta := tCons (tVar 8) (tCons (tOp (rIxT K) (tVar 10) (tC (V.int 0))) tNil)) (σ := [some (.ref b), some (.int (c : Int)), some (.ref pk), some (.ref ps), some (.int many), some (.int num), v6, some (.ref pr), some (.ref pm), some (.bl (decide (V.int r = V.int 0))), some (.ref h), some (.int some_), none, none]) (H := H7) (kind := 2) (xs := [.ref pm, .ref x]) (ea_cons (ev_var rfl) (ea_cons (ix0 rfl (Ex.refl _)) ea_nil)) (by show 2 ≤ 3; decide) (fun G e => .rank (by decide) (e _ _ hm7) (rm7.ex e) (hx7.ex e) x0 kk chm)
  have q5 := evq (ok := Fr H) (ta := tCons (tVar 8) (tCons (tOp (rIxT K) (tVar 10) (tC (V.int 0))) tNil)) (σ := [some (.ref b), some (.int (c : Int)), some (.ref pk), some (.ref ps), some (.int many), some (.int num), v6, some (.ref pr), some (.ref pm), some (.bl (decide (V.int r = V.int 0))), some (.ref h), some (.int some_), none, none]) (H := H7) (kind := 3) (xs := [.ref pm, .ref x]) (ea_cons (ev_var rfl) (ea_cons (ix0 rfl (Ex.refl _)) ea_nil)) (by show 2 ≤ 3; decide) (fun G e => .rank (by decide) (e _ _ hm7) (rm7.ex e) (hx7.ex e) x0 kk chm)
  refine q_qs (i := 12) (eqa_cons q1 (eqa_cons q2 (eqa_cons q3 (eqa_cons q4 (eqa_cons q5 eqa_nil))))) (by decide) fun ts0 H9 F e79 all0 l0 hF => ?_
  have F0 : H F = none := but_fresh k7 hB B7 (fresh_back e79 hF)
  have f := Ex.new (o := .lst (ts0.map V.ref)) hF
  have Fv : (upd H9 F (.lst (ts0.map V.ref))) F = some (.lst (ts0.map V.ref)) := upd_same
  have e7F := e79.trans f
  have allF : ∀ t ∈ ts0, AskAt (fun a => Fr H a ∧ a ≠ F) (upd H9 F (.lst (ts0.map V.ref))) t := fun t ht => ((all0 t ht).new hF).ex f
  have F7 : H7 F = none := fresh_back e79 hF
  generalize upd H9 F (.lst (ts0.map V.ref)) = HF at Fv e7F allF ⊢
  refine q_forNLn (j := 13) (el_lst (ea_cons (ev_var rfl) (ea_cons ev_c (ea_cons (ev_op (ev_var rfl) ev_c rv_I0) (ea_cons (ev_var rfl) (ea_cons (ev_un ev_c ru_neg) (ea_cons (ev_op (ev_var rfl) (ev_var rfl) rv_I0) ea_nil)))))) (by show 6 ≤ 100000; decide))
    (fun p i σ G => Ex H7 G ∧ G p = some (.lst [.int some_, .int 0, .int (many - 1), .int many, .int (-1), .int (many + num)]) ∧ p ≠ F ∧ ∃ (ts : List Addr) (v12 : Option V), σ = [some (.ref b), some (.int (c : Int)), some (.ref pk), some (.ref ps), some (.int many), some (.int num), v6, some (.ref pr), some (.ref pm), some (.bl (decide (V.int r = V.int 0))), some (.ref h), some (.int some_), some (.ref F), v12] ∧ G F = some (.lst (ts.map V.ref)) ∧ ts.length = i + 5 ∧ ∀ t ∈ ts, AskAt (fun a => Fr H a ∧ a ≠ F) G t)
    (fun p G hp e hpv => ⟨e7F.trans e, hpv, ne_of_none' Fv hp, ts0, _, rfl, e _ _ Fv, l0, fun t ht => (allF t ht).ex e⟩) (fun p i σ G _ pp => SqL.of pp.2.1) ?_ ?_
  · rintro p i x' σ G hi ⟨e7, hp, pF, ts, v12, rfl, hFG, lt, all⟩
    have hlt : i < 6 := (List.getElem?_eq_some_iff.mp hi).1
    obtain ⟨z, rfl⟩ : ∃ z, x' = .int z := by
      match i, hi with
      | 0, hi => exact ⟨_, (Option.some.inj hi).symm⟩
      | 1, hi => exact ⟨_, (Option.some.inj hi).symm⟩
      | 2, hi => exact ⟨_, (Option.some.inj hi).symm⟩
      | 3, hi => exact ⟨_, (Option.some.inj hi).symm⟩
      | 4, hi => exact ⟨_, (Option.some.inj hi).symm⟩
      | 5, hi => exact ⟨_, (Option.some.inj hi).symm⟩
    have q6 := evq (ok := fun a => Fr H a ∧ a ≠ F) (ta := tCons (tVar 13) (tCons (tOp (rIxT K) (tVar 10) (tC (V.int 0))) (tCons (tOp (rIxT K) (tVar 10) (tC (V.int 1))) tNil))) (σ := [some (.ref b), some (.int (c : Int)), some (.ref pk), some (.ref ps), some (.int many), some (.int num), v6, some (.ref pr), some (.ref pm), some (.bl (decide (V.int r = V.int 0))), some (.ref h), some (.int some_), some (.ref F), some (.int z)]) (H := G) (kind := 1) (xs := [.int z, .ref x, .ref y]) (ea_cons (ev_var rfl) (ea_cons (ix0 rfl e7) (ea_cons (ix1 rfl e7) ea_nil))) (by show 3 ≤ 3; decide)
      (fun G' e => .rounds ((hx7.ex e7).ex e) ⟨x0, hx7.ne F7⟩ kk ((hy7.ex e7).ex e) ⟨y0, hy7.ne F7⟩ sk)
    refine ⟨_, rfl, .inl ⟨rfl, _, SqL.of hFG⟩, q6 G (Ex.refl _) _ fun t3 G1 e1 a3 => ⟨F, _, _, rfl, rfl, e1 _ _ hFG, small1000 (by rw [List.length_map]; omega), ?_⟩⟩
    have kF : But F G1 (upd G1 F (.lst (ts.map V.ref ++ [.ref t3]))) := But.upd
    refine ⟨(e7.trans e1).mut F7, by rw [upd_ne pF]; exact e1 _ _ hp, pF, ts ++ [t3], _, rfl, by rw [upd_same, List.map_append]; rfl, by rw [List.length_append, lt]; rfl, fun t ht => ?_⟩
    rcases List.mem_append.mp ht with ht | ht
    · exact ((all t ht).ex e1).but (e1 _ _ hFG) kF fun a ha => ha.2
    · rw [List.mem_singleton] at ht
      subst ht
      exact a3.but (e1 _ _ hFG) kF fun a ha => ha.2
  · rintro p σ G ⟨e7, hp, pF, ts, v12, rfl, hFG, lt, all⟩
    exact ⟨_, rfl, q F ts G F0 hFG lt (fun t ht => (all t ht).of fun a ha => ha.1) ((B7.ex e7).le (by omega)) (k7.ex e7)⟩
end
end L2.U


set_option Elab.async false
set_option linter.all false
set_option maxRecDepth 100000
set_option maxHeartbeats 4000000
namespace L2.U
open PySem PySem.Spec PyProof.Rows Evl

section
variable {P : Program} {w : World} {K : PySem.W.Frag} {mg : Str → Option Value} {base : Heap}
theorem acc_at {ks ss : List Int} (kk : KOK ks) (h1 : ∀ z ∈ ss, 1 ≤ z) {r : Nat} (h : r < ((accF false [([], ks)] ss).map Prod.fst).length) : ((accF false [([], ks)] ss).map Prod.fst)[r]? = some (rndA 1 ks ss (r : Int)) ∧ (r : Int) < manyI (ks.length : Int) ss 1 := by
  have e := list_all kk.so kk.l h1
  rw [e] at h ⊢
  rw [List.length_map, List.length_range] at h
  refine ⟨by rw [List.getElem?_map, List.getElem?_range h]; rfl, by omega⟩
theorem acc_many {ks ss : List Int} (kk : KOK ks) (h1 : ∀ z ∈ ss, 1 ≤ z) : (((accF false [([], ks)] ss).map Prod.fst).length : Int) = manyI (ks.length : Int) ss 1 := by
  rw [list_all kk.so kk.l h1, List.length_map, List.length_range]
  have := (many_le (g := 1) (by omega) ss ks.length kk.l h1).1
  omega
def spLWhole : Sp := fun vs H Q _ => ∃ (a b : Addr) (ks ss : List Int) (named : Int), vs = [.ref a, .ref b, .int named] ∧ H a = some (.lst (ks.map V.int)) ∧ H b = some (.lst (ss.map V.int)) ∧ KOK ks ∧ ks.length ≤ 6 ∧ SOK ss ∧ ∀ H', Ex H H' → Q (.bl true) H'
theorem ok_law_whole (T : TK K mg) : FnOk P w K mg base CX0 10 T.law_whole.a T.law_whole.fd ["wires", "sizes", "named"] spLWhole := by
  refine T.law_whole.F.ok sc_law_whole (fun vs H Q E h => ?_) (fun cdv A outer s H vs Q E hr h => ?_)
  · obtain ⟨a, b, ks, ss, named, rfl, _⟩ := h; rfl
  obtain ⟨a, b, ks, ss, named, rfl, ha, hb, kk, k6, sk, q⟩ := h
  refine ⟨_, (pss_cons (ps_set (i := 3) sc_law_whole.nd rfl (Or.inl rfl) (pe_call (ok_law_listing T) (hr.mono (by decide)) rfl T.law_listing.m T.law_listing.F.kp T.law_listing.b .nil pass0 (pa_cons (pv 0) (pa_cons (pv 1) pa_nil))))
    (pss_cons (ps_if (pt_not (pt_val (pe_call (ok_law_same T.toTA1) (hr.mono (by decide)) rfl T.law_same.m T.law_same.F.kp T.law_same.b .nil pass0 (pa_cons (pe_call (okc_many_raised T) (hr.mono (by decide)) rfl T.many_raised.m T.many_raised.F.kp T.many_raised.b .nil pass0 (pa_cons (pe_callB (klen K) (by rfl) T.z_len (by decide +kernel) (pa_cons (pv 0) pa_nil)) (pa_cons (pe_callTy (klist K) (by rfl) T.z_list (by decide +kernel) (pa_cons (pv 1) pa_nil)) pa_nil))) (pa_cons (pe_callB (klen K) (by rfl) T.z_len (by decide +kernel) (pa_cons (pv 3) pa_nil)) pa_nil))))) (pss_one (ps_ret pe_bl)) pss_nil)
    (pss_cons (ps_for PassesOwn.never rfl (pi_range1 rfl T.z_range (pa_cons (pe_callB (klen K) (by rfl) T.z_len (by decide +kernel) (pa_cons (pv 3) pa_nil)) pa_nil)) (pg_name (i := 4) sc_law_whole.nd rfl (Or.inl rfl)) (pss_cons (ps_set (i := 5) sc_law_whole.nd rfl (Or.inl rfl) (pe_op op_mod (pe_callTy call_int1 (by rfl) T.z_int (by decide +kernel) (pa_cons (pe_op op_add (pv 4) (pv 2)) pa_nil)) pe_int))
    (pss_cons (ps_if (pt_not (pt_val (pe_call (ok_law_same T.toTA1) (hr.mono (by decide)) rfl T.law_same.m T.law_same.F.kp T.law_same.b .nil pass0 (pa_cons (pe_call (ok_law_told T) (hr.mono (by decide)) rfl T.law_told.m T.law_told.F.kp T.law_told.b .nil pass0 (pa_cons pe_int (pa_cons (pv 5) (pa_cons (pe_lst (pa_cons (pv 4) (pa_cons (pe_callTy (klist K) (by rfl) T.z_list (by decide +kernel) (pa_cons (pv 0) pa_nil)) (pa_cons (pe_callTy (ktuple K) (by rfl) T.z_tuple (by decide +kernel) (pa_cons (pv 1) pa_nil)) pa_nil)))) pa_nil)))) (pa_cons (pe_tup (pa_cons pe_str (pa_cons (pe_ix (kixl K) (pv 3) (pv 4) (fun _ _ => rfl)) pa_nil))) pa_nil))))) (pss_one (ps_ret pe_bl)) pss_nil)
    (pss_cons (ps_if (pt_not (pt_val (pe_call (ok_law_same T.toTA1) (hr.mono (by decide)) rfl T.law_same.m T.law_same.F.kp T.law_same.b .nil pass0 (pa_cons (pe_call (ok_law_told T) (hr.mono (by decide)) rfl T.law_told.m T.law_told.F.kp T.law_told.b .nil pass0 (pa_cons pe_int (pa_cons (pv 5) (pa_cons (pe_lst (pa_cons (pe_ix (kixl K) (pv 3) (pv 4) (fun _ _ => rfl)) (pa_cons (pe_callTy (ktuple K) (by rfl) T.z_tuple (by decide +kernel) (pa_cons (pv 0) pa_nil)) pa_nil))) pa_nil)))) (pa_cons (pe_tup (pa_cons pe_str (pa_cons (pv 4) pa_nil))) pa_nil))))) (pss_one (ps_ret pe_bl)) pss_nil)
    (pss_one (ps_if (pt_not (pt_val (pe_call (ok_law_same T.toTA1) (hr.mono (by decide)) rfl T.law_same.m T.law_same.F.kp T.law_same.b .nil pass0 (pa_cons (pe_call (ok_law_told T) (hr.mono (by decide)) rfl T.law_told.m T.law_told.F.kp T.law_told.b .nil pass0 (pa_cons pe_int (pa_cons (pe_op op_sub pe_int (pv 5)) (pa_cons (pe_lst (pa_cons (pe_ix (kixl K) (pv 3) (pv 4) (fun _ _ => rfl)) (pa_cons (pe_callTy (klist K) (by rfl) T.z_list (by decide +kernel) (pa_cons (pv 0) pa_nil)) pa_nil))) pa_nil)))) (pa_cons (pe_tup (pa_cons pe_str (pa_cons (pe_ix (kixl K) (pe_call (ok_law_walk T) (hr.mono (by decide)) rfl T.law_walk.m T.law_walk.F.kp T.law_walk.b .nil pass0 (pa_cons (pv 0) (pa_cons (pe_ix (kixl K) (pv 3) (pv 4) (fun _ _ => rfl)) pa_nil))) pe_int (fun _ _ => rfl)) pa_nil))) pa_nil))))) (pss_one (ps_ret pe_bl)) pss_nil))))))
    (pss_one (ps_ret pe_bl))))), ?_⟩
  have s1 : ∀ z ∈ ss, 1 ≤ z := fun z hz => (sk.b z hz).1
  refine ⟨_, rfl, _, rfl, a, b, ks, ss, rfl, ha, hb, kk, k6, sk, fun p xs H1 e1 hp rtt => ?_⟩
  have tot : ((accF false [([], ks)] ss).map Prod.fst).length ≤ 720 := by rw [List.length_map]; exact accF_len kk.so k6 s1
  have am := acc_many kk s1
  have ar : ∀ rs ∈ (accF false [([], ks)] ss).map Prod.fst, rs.length ≤ 16 ∧ ∀ c ∈ rs, c.length ≤ 16 := fun rs h => by
    obtain ⟨p, hp, rfl⟩ := List.mem_map.mp h
    have := acc_rows kk k6 s1 p hp
    exact ⟨this.1, this.2.1⟩
  have at_ := fun (r : Nat) (h : r < ((accF false [([], ks)] ss).map Prod.fst).length) => acc_at kk s1 h
  generalize (accF false [([], ks)] ss).map Prod.fst = acc at rtt tot am ar at_
  have xl := rtt.1
  have lp : ∀ {te : TE} {σ : L2.St} {G : Hp}, Ex H1 G → Ev te σ G (.ref p) → Ev (tCB (rLen K) (tCons te tNil)) σ G (.int (xs.length : Int)) := fun e h => ev_lenV (K := K) h (.inl (SqL.of (e _ _ hp)))
  have mr : Ev (tCall (spManyC K) [] E0 (tCons (tCB (rLen K) (tCons (tVar 0) tNil)) (tCons (tCB (rListOf K) (tCons (tVar 1) tNil)) tNil))) [some (.ref a), some (.ref b), some (.int named), some (.ref p), none, none] H1 (.int (manyI (ks.length : Int) ss 1)) := fun H0 e Q' q' =>
    lenI (K := K) (ev_var rfl) (.inl (e1 _ _ ha)) H0 e _ fun H2 e2 => ⟨_, rfl, b, _, rfl, .inl (SqL.of ((e.trans e2) _ _ (e1 _ _ hb))), fun l hl => ⟨ks.length, l, ss, rfl, .inl upd_same, by omega, sk, fun H3 e3 => q' H3 ((e2.trans (Ex.new hl)).trans e3)⟩⟩
  refine q_when (b := false) (et_is (et_not (et_B (ev_same mr (lp (Ex.refl _) (ev_var rfl)) fun H' _ => by rw [xl, am]; exact .int _))) rfl) (fun z => nomatch z) fun _ H2 e2 => ?_
  refine q_forR1 (j := 4) (n := (xs.length : Int)) (ea_cons (lp e2 (ev_var rfl)) ea_nil) ⟨by omega, by omega⟩ (fun i σ G => Ex H1 G ∧ ∃ v4 v5, σ = [some (.ref a), some (.ref b), some (.int named), some (.ref p), v4, v5]) (fun G e => ⟨e2.trans e, _, _, rfl⟩) ?_ ?_
  · rintro r σ G hr ⟨eg, v4, v5, rfl⟩
    have hrx : r < xs.length := by omega
    have hra : r < acc.length := by omega
    obtain ⟨hat, hrm⟩ := at_ r hra
    obtain ⟨g1, g2, g3⟩ := rnd_chain ss ks (r : Int) kk.nd kk.l s1 (by omega) hrm
    obtain ⟨rs16, cs16⟩ := ar _ (List.mem_of_getElem? hat)
    generalize hrs : rndA 1 ks ss (r : Int) = rs at hat g1 g2 g3 rs16 cs16
    have hx : xs[r]? = some (xs[r]'hrx) := List.getElem?_eq_getElem _
    obtain ⟨t, us, ht0, ht, rt⟩ := rtt.2 r _ rs hx hat
    rw [ht0] at hx
    have md : ∀ {H' : Hp} {σ : L2.St}, σ[4]? = some (some (.int (r : Int))) → σ[2]? = some (some (.int named)) → Ev (tOp (rI (fun _ j => 0 < j) fun i j => .int (i % j)) (tCB (fun xs H Q => (∃ i, xs = [V.int i] ∧ Q (V.int i) H) ∨ ∃ k, xs = [V.bl k] ∧ Q (V.int (if k = true then 1 else 0)) H) (tCons (tOp (rI0 fun i j => .int (i + j)) (tVar 4) (tVar 2)) tNil)) (tC (.int 2))) σ H' (.int (((r : Int) + named) % 2)) := fun h4 h2 =>
      ev_op (ev_cb (ea_cons (ev_op (ev_var h4) (ev_var h2) rv_I0) ea_nil) (fun H1 _ Q q => .inl ⟨_, rfl, q H1 (Ex.refl _)⟩)) ev_c (rv_I (by decide))
    refine q_asg (md rfl rfl) fun G1 eg1 => ?_
    generalize ((r : Int) + named) % 2 = way
    have e01 := eg.trans eg1
    have ixp : ∀ {σ : L2.St} {G' : Hp}, σ[3]? = some (some (.ref p)) → σ[4]? = some (some (.int (r : Int))) → Ex H1 G' → Ev (tOp (rIxL K) (tVar 3) (tVar 4)) σ G' (.ref t) := fun h3 h4 e => ev_op (ev_var h3) (ev_var h4) (rv_ixL (SqL.of (e _ _ hp)) (atI_nat hx))
    have rdT : ∀ {G' : Hp} {n : Nat}, Ex H1 G' → Rd K (fun _ => True) G' (n + 2) (.ref t) (rowsD rs) := fun e => rd_rows (e _ _ ht) (rt.ex e) (by omega) fun c hc => by have := cs16 c hc; omega
    have c1 : Ev (tCall (spSame K 8) [] E0 (tCons (tCall (spLTold K) [] E0 (tCons (tC (V.int 1)) (tCons (tVar 5) (tCons (tLst (tCons (tVar 4) (tCons (tCB (rListOf K) (tCons (tVar 0) tNil)) (tCons (tCB (rTupOf K) (tCons (tVar 1) tNil)) tNil)))) tNil)))) (tCons (tTup (tCons (tC (V.str (Str.ofString "done"))) (tCons (tOp (rIxL K) (tVar 3) (tVar 4)) tNil))) tNil))) [some (.ref a), some (.ref b), some (.int named), some (.ref p), some (.int (r : Int)), some (.int way)] G1 (.bl true) := by
      intro H0 e Q' q'
      have eH : Ex H1 H0 := e01.trans e
      refine ⟨_, rfl, _, rfl, _, rfl, a, _, rfl, .inl (SqL.of (eH _ _ (e1 _ _ ha))), fun L1 hL1 => ?_⟩
      have f1 := Ex.new (o := .lst (ks.map V.int)) hL1
      refine ⟨_, rfl, b, _, rfl, .inl ⟨SqL.of (f1 _ _ (eH _ _ (e1 _ _ hb))), fun T1 hT1 => ⟨(by show 3 ≤ sizeLine; decide), fun P hP => ?_⟩⟩⟩
      have f2 := Ex.new (o := .tup (ss.map V.int)) hT1
      have f3 := Ex.new (o := .lst [.int (r : Int), .ref L1, .ref T1]) hP
      have u1 := f3 _ _ (f2 _ _ (upd_same (H := H0) (a := L1) (o := .lst (ks.map V.int))))
      have u2 := f3 _ _ (upd_same (H := upd H0 L1 (.lst (ks.map V.int))) (a := T1) (o := .tup (ss.map V.int)))
      have u3 : (upd (upd (upd H0 L1 (.lst (ks.map V.int))) T1 (.tup (ss.map V.int))) P (.lst [.int (r : Int), .ref L1, .ref T1])) P = some (.lst [.int (r : Int), .ref L1, .ref T1]) := upd_same
      have f13 := (f1.trans f2).trans f3
      generalize upd (upd (upd H0 L1 (.lst (ks.map V.int))) T1 (.tup (ss.map V.int))) P (.lst [.int (r : Int), .ref L1, .ref T1]) = H4 at u1 u2 u3 f13 ⊢
      obtain ⟨d, sd, rd⟩ := (SqI.rd (K := K) (n := 0) (.inl u1) (by omega) : ∃ d, SeqD d ks ∧ Rd K (fun _ => True) H4 (0 + 1) (.ref L1) d)
      obtain ⟨d2, sd2, rd2⟩ := (SqI.rd (K := K) (n := 0) (.inr u2) (by have := sk.l; omega) : ∃ d, SeqD d ss ∧ Rd K (fun _ => True) H4 (0 + 1) (.ref T1) d)
      refine ⟨1, way, P, _, 1, _, rfl, SqL.of u3, by decide, .rounds (.int _) rd rd2 sd kk sd2 sk (fun _ _ pp zs t' H5 e5 hpp hrr ht' => ?_) (fun no => absurd ⟨by omega, hrm⟩ no)⟩
      rw [hrs] at hrr
      have e15 := (eH.trans f13).trans e5
      refine (ixp rfl rfl e15) H5 (Ex.refl _) _ fun H6 e6 => ⟨two_le, fun D hD => ?_⟩
      have e7 := Ex.new (o := .tup [.str (Str.ofString "done"), .ref t]) hD
      have e67 := e6.trans e7
      refine ⟨_, _, rfl, sm_pair (n := 7) (SqT.of (e67 _ _ ht')) (SqT.of upd_same) (by decide +kernel) (Sm.le (n := 2) ?_ (by decide)), fun H8 e8 => q' H8 (((f13.trans e5).trans e67).trans e8)⟩
      exact (rd_rows (K := K) (n := 0) (e67 _ _ hpp) (hrr.ex e67) (by omega) fun c hc => by have := cs16 c hc; omega).sm (rdT (n := 0) (e15.trans e67))
    refine q_when (b := false) (et_is (et_not (et_B c1)) rfl) (fun z => nomatch z) fun _ G2 eg2 => ?_
    have e02 := e01.trans eg2
    have c2 : Ev (tCall (spSame K 8) [] E0 (tCons (tCall (spLTold K) [] E0 (tCons (tC (V.int 2)) (tCons (tVar 5) (tCons (tLst (tCons (tOp (rIxL K) (tVar 3) (tVar 4)) (tCons (tCB (rTupOf K) (tCons (tVar 0) tNil)) tNil))) tNil)))) (tCons (tTup (tCons (tC (V.str (Str.ofString "done"))) (tCons (tVar 4) tNil))) tNil))) [some (.ref a), some (.ref b), some (.int named), some (.ref p), some (.int (r : Int)), some (.int way)] G2 (.bl true) := by
      intro H0 e Q' q'
      have eH : Ex H1 H0 := e02.trans e
      refine ⟨_, rfl, ?_⟩
      refine (ixp rfl rfl eH) H0 (Ex.refl _) _ fun H3 e3 => ?_
      refine ⟨_, rfl, a, _, rfl, .inl ⟨SqL.of ((eH.trans e3) _ _ (e1 _ _ ha)), fun T1 hT1 => ⟨(by show 2 ≤ sizeLine; decide), fun P hP => ?_⟩⟩⟩
      have f2 := Ex.new (o := .tup (ks.map V.int)) hT1
      have f3 := Ex.new (o := .lst [.ref t, .ref T1]) hP
      have u2 := f3 _ _ (upd_same (H := H3) (a := T1) (o := .tup (ks.map V.int)))
      have u3 : (upd (upd H3 T1 (.tup (ks.map V.int))) P (.lst [.ref t, .ref T1])) P = some (.lst [.ref t, .ref T1]) := upd_same
      have f13 := (e3.trans f2).trans f3
      generalize upd (upd H3 T1 (.tup (ks.map V.int))) P (.lst [.ref t, .ref T1]) = H4 at u2 u3 f13 ⊢
      obtain ⟨d, sd, rd⟩ := (SqI.rd (K := K) (n := 1) (.inr u2) (by omega) : ∃ d, SeqD d ks ∧ Rd K (fun _ => True) H4 (1 + 1) (.ref T1) d)
      refine ⟨2, way, P, _, 2, _, rfl, SqL.of u3, by decide, .rank (rdT (n := 0) (eH.trans f13)) rd sd kk g1 fun t' H5 e5 ht' => ?_⟩
      refine ⟨_, rfl, two_le, fun D hD => ?_⟩
      have e7 := Ex.new (o := .tup [.str (Str.ofString "done"), .int (r : Int)]) hD
      refine ⟨_, _, rfl, sm_pair (n := 7) (SqT.of (e7 _ _ ht')) (SqT.of upd_same) (by decide +kernel) (by rw [g3]; exact .int _), fun H8 e8 => q' H8 (((f13.trans e5).trans e7).trans e8)⟩
    refine q_when (b := false) (et_is (et_not (et_B c2)) rfl) (fun z => nomatch z) fun _ G3 eg3 => ?_
    have e03 := e02.trans eg3
    have c3 : Ev (tCall (spSame K 8) [] E0 (tCons (tCall (spLTold K) [] E0 (tCons (tC (V.int 3)) (tCons (tOp (rI0 fun i j => V.int (i - j)) (tC (V.int 1)) (tVar 5)) (tCons (tLst (tCons (tOp (rIxL K) (tVar 3) (tVar 4)) (tCons (tCB (rListOf K) (tCons (tVar 0) tNil)) tNil))) tNil)))) (tCons (tTup (tCons (tC (V.str (Str.ofString "done"))) (tCons (tOp (rIxL K) (tCall spLWalk [] E0 (tCons (tVar 0) (tCons (tOp (rIxL K) (tVar 3) (tVar 4)) tNil))) (tC (V.int 1))) tNil))) tNil))) [some (.ref a), some (.ref b), some (.int named), some (.ref p), some (.int (r : Int)), some (.int way)] G3 (.bl true) := by
      intro H0 e Q' q'
      have eH : Ex H1 H0 := e03.trans e
      refine ⟨_, rfl, _, _, rfl, rfl, ?_⟩
      refine (ixp rfl rfl eH) H0 (Ex.refl _) _ fun H3 e3 => ?_
      refine ⟨_, rfl, a, _, rfl, .inl (SqL.of ((eH.trans e3) _ _ (e1 _ _ ha))), fun T1 hT1 => ⟨(by show 2 ≤ sizeLine; decide), fun P hP => ?_⟩⟩
      have f2 := Ex.new (o := .lst (ks.map V.int)) hT1
      have f3 := Ex.new (o := .lst [.ref t, .ref T1]) hP
      have u2 := f3 _ _ (upd_same (H := H3) (a := T1) (o := .lst (ks.map V.int)))
      have u3 : (upd (upd H3 T1 (.lst (ks.map V.int))) P (.lst [.ref t, .ref T1])) P = some (.lst [.ref t, .ref T1]) := upd_same
      have f13 := (e3.trans f2).trans f3
      generalize upd (upd H3 T1 (.lst (ks.map V.int))) P (.lst [.ref t, .ref T1]) = H4 at u2 u3 f13 ⊢
      obtain ⟨d, sd, rd⟩ := (SqI.rd (K := K) (n := 1) (.inl u2) (by omega) : ∃ d, SeqD d ks ∧ Rd K (fun _ => True) H4 (1 + 1) (.ref T1) d)
      have al := ans_len rs ks
      refine ⟨3, 1 - way, P, _, 2, _, rfl, SqL.of u3, by decide, .answers (rdT (n := 0) (eH.trans f13)) rd sd kk g1 fun pa t' H5 e5 hpa ht' => ?_⟩
      have e15 := (eH.trans f13).trans e5
      refine (ev_walk1 (K := K) (ta := tVar 0) (tb := tOp (rIxL K) (tVar 3) (tVar 4)) (σ := [some (.ref a), some (.ref b), some (.int named), some (.ref p), some (.int (r : Int)), some (.int way)]) (H := H5) (ev_var rfl) (ixp rfl rfl e15) (.inl (e15 _ _ (e1 _ _ ha))) (e15 _ _ ht) (rt.ex e15) g1 kk) H5 (Ex.refl _) _ fun p' H6 e6 hp' => ⟨two_le, fun D hD => ?_⟩
      have e7 := Ex.new (o := .tup [.str (Str.ofString "done"), .ref p']) hD
      have e67 := e6.trans e7
      refine ⟨_, _, rfl, sm_pair (n := 7) (SqT.of (e67 _ _ ht')) (SqT.of upd_same) (by decide +kernel) (Sm.le (n := 1) ?_ (by decide)), fun H8 e8 => q' H8 (((f13.trans e5).trans e67).trans e8)⟩
      exact (rd_rowS (K := K) (n := 0) (SqT.of (e67 _ _ hpa)) (by omega)).sm (rd_rowS (n := 0) (ex_t e7 hp') (by omega))
    refine s_when (b := false) (et_is (et_not (et_B c3)) rfl) (fun z => nomatch z) fun _ G4 eg4 => ⟨e03.trans eg4, _, _, rfl⟩
  · rintro σ G ⟨eg, v4, v5, rfl⟩
    exact s_ret ev_c fun G1 eg1 => q G1 ((e1.trans eg).trans eg1)
end
end L2.U


set_option Elab.async false
set_option linter.all false
set_option maxRecDepth 100000
set_option maxHeartbeats 4000000
namespace L2.U
open PySem PySem.Spec PyProof.Rows Evl

section
variable {P : Program} {w : World} {K : PySem.W.Frag} {mg : Str → Option Value} {base : Heap}
structure Aj (H1 : Hp) (b A : Addr) (n : Nat) (ts : List Addr) (H : Hp) : Prop where
  box : BoxAt H b n
  b0 : H1 b = none
  A0 : H1 A = none
  ex : Ex H1 H
  dir : H A = some (.lst (ts.map V.ref))
  ne : A ≠ b
  all : ∀ t ∈ ts, AskAt (fun a => a ≠ b ∧ a ≠ A) H t
section
variable {H1 H H' : Hp} {b A : Addr} {n m : Nat} {ts us : List Addr}
theorem Aj.exx (j : Aj H1 b A n ts H) (e : Ex H H') : Aj H1 b A n ts H' := ⟨j.box.ex e, j.b0, j.A0, j.ex.trans e, e _ _ j.dir, j.ne, fun t ht => (j.all t ht).ex e⟩
theorem Aj.le (j : Aj H1 b A n ts H) (h : m ≤ n) : Aj H1 b A m ts H := ⟨j.box.le h, j.b0, j.A0, j.ex, j.dir, j.ne, j.all⟩
theorem Aj.add (j : Aj H1 b A n ts H) (h : ∀ t ∈ us, AskAt (fun a => a ≠ b ∧ a ≠ A) H t) {xs : List V} (hx : xs = (ts ++ us).map V.ref) : Aj H1 b A n (ts ++ us) (upd H A (.lst xs)) := by
  have kA : But A H (upd H A (.lst xs)) := But.upd
  refine ⟨box_upd j.box j.ne, j.b0, j.A0, j.ex.mut j.A0, by rw [upd_same, hx], j.ne, fun t ht => ?_⟩
  rcases List.mem_append.mp ht with h' | h'
  · exact (j.all t h').but j.dir kA fun a ha => ha.2
  · exact (h t h').but j.dir kA fun a ha => ha.2
theorem Aj.fr (j : Aj H1 b A n ts H) {a : Addr} (h : H a = none) : a ≠ b ∧ a ≠ A := ⟨j.box.ne h, ne_of_none' j.dir h⟩
end
/-- questions so far, in a list -/
structure Qs (H1 : Hp) (b p : Addr) (ts : List Addr) (G : Hp) : Prop where
  p0 : H1 p = none
  dir : G p = some (.lst (ts.map V.ref))
  ne : p ≠ b
  all : ∀ t ∈ ts, AskAt (fun a => a ≠ b) G t
section
variable {H1 G G' : Hp} {b p q : Addr} {n : Nat} {ts us : List Addr}
theorem Qs.ex (j : Qs H1 b p ts G) (e : Ex G G') : Qs H1 b p ts G' := ⟨j.p0, e _ _ j.dir, j.ne, fun t ht => (j.all t ht).ex e⟩
theorem Qs.but (j : Qs H1 b p ts G) (B : BoxAt G b n) (k : But b G G') : Qs H1 b p ts G' := by
  obtain ⟨ys, hb⟩ := box_list B
  exact ⟨j.p0, k _ _ j.ne j.dir, j.ne, fun t ht => (j.all t ht).but hb k fun a ha => ha⟩
theorem Qs.cat (j : Qs H1 b p ts G) (j2 : Qs H1 b q us G) (e : Ex H1 G) (B : BoxAt G b n) {r : Addr} (hr : G r = none) : Qs H1 b r (ts ++ us) (upd G r (.lst (ts.map V.ref ++ us.map V.ref))) := by
  have f := Ex.new (o := .lst (ts.map V.ref ++ us.map V.ref)) hr
  refine ⟨fresh_back e hr, by rw [upd_same, List.map_append], B.ne hr, fun t ht => ?_⟩
  rcases List.mem_append.mp ht with h | h
  · exact (j.all t h).ex f
  · exact (j2.all t h).ex f
end
theorem mm (L : Int) : 1 ≤ (if (if L < 2 then L else 2) > 1 then (if L < 2 then L else 2) else 1) ∧ (if (if L < 2 then L else 2) > 1 then (if L < 2 then L else 2) else 1) ≤ 2 := by
  by_cases c : L < 2
  · rw [if_pos c]; split <;> omega
  · rw [if_neg c]; split <;> omega
def RunQ (te : TE) (σ : L2.St) (H : Hp) : Prop := ∀ G, Ex H G → ∀ Q : VK, (∀ t G', Ex G G' → AskAt (Fr G) G' t → Q (.ref t) G') → te σ G Q
def RunQA (ta : TA) (σ : L2.St) (H : Hp) (m : Nat) : Prop := ∀ G, Ex H G → ∀ Q : List V → Hp → Prop, (∀ (ts : List Addr) G', Ex G G' → (∀ t ∈ ts, AskAt (Fr G) G' t) → ts.length = m → Q (ts.map V.ref) G') → ta σ G Q
section
variable {σ : L2.St} {H : Hp} {te tl : TE} {ta : TA} {n m : Nat}
theorem rq0 {c : Nat} {ns : List Int} (hc : c ≤ 16) (s : SOK ns) (l : EvL tl σ H (ns.map V.int)) : RunQ (tTup (tCons (tC (.int 0)) (tCons (tTup (tCons (tC (.int (c : Int))) (tCons tl tNil))) tNil))) σ H := fun G e Q k =>
  l G e _ fun p G1 hp e1 hpv => ⟨two_le, fun vt hv => ⟨two_le, fun t ht => by
    have f1 := Ex.new (o := .tup [.int (c : Int), .ref p]) hv
    have f2 := Ex.new (o := .tup [.int 0, .ref vt]) ht
    exact k t _ ((e1.trans f1).trans f2) ⟨0, vt, [.int (c : Int), .ref p], upd_same, f2 _ _ upd_same, .many hc (.inl (f2 _ _ (f1 _ _ hpv))) hp s⟩⟩⟩
theorem rq1 {i : Int} {t1 t2 : TE} {ks ns : List Int} (k : KOK ks) (s : SOK ns) (l1 : EvL t1 σ H (ks.map V.int)) (l2 : EvL t2 σ H (ns.map V.int)) : RunQ (tTup (tCons (tC (.int 1)) (tCons (tTup (tCons (tC (.int i)) (tCons t1 (tCons t2 tNil)))) tNil))) σ H := fun G e Q q =>
  l1 G e _ fun p G1 hp e1 hpv => l2 G1 (e.trans e1) _ fun p2 G2 hp2 e2 hpv2 => ⟨(by show 3 ≤ sizeLine; decide), fun vt hv => ⟨two_le, fun t ht => by
    have f1 := Ex.new (o := .tup [.int i, .ref p, .ref p2]) hv
    have f2 := Ex.new (o := .tup [.int 1, .ref vt]) ht
    exact q t _ (((e1.trans e2).trans f1).trans f2) ⟨1, vt, [.int i, .ref p, .ref p2], upd_same, f2 _ _ upd_same, .rounds (.inl (f2 _ _ (f1 _ _ (e2 _ _ hpv)))) hp k (.inl (f2 _ _ (f1 _ _ hpv2))) (fresh_back e1 hp2) s⟩⟩⟩
/-- what gives rounds -/
def EvRs (te : TE) (σ : L2.St) (H : Hp) (rs : List (List Int)) : Prop := ∀ G, Ex H G → ∀ Q : VK, (∀ p xs G1, Ex G G1 → G1 p = some (.tup xs) → RowsT G1 xs rs → Q (.ref p) G1) → te σ G Q
theorem ers_nil : EvRs (tTup tNil) σ H [] := fun G e Q q => ⟨Nat.zero_le _, fun p hp => q p [] _ (Ex.new hp) upd_same RowsT.nil⟩
theorem ers_one {i : Int} : EvRs (tTup (tCons (tTup (tCons (tC (.int i)) tNil)) tNil)) σ H [[i]] := fun G e Q q => ⟨(by show 1 ≤ sizeLine; decide), fun p hp => ⟨(by show 1 ≤ sizeLine; decide), fun p2 hp2 => by
  have f1 := Ex.new (o := .tup [.int i]) hp
  have f2 := Ex.new (o := .tup [.ref p]) hp2
  refine q p2 [.ref p] _ (f1.trans f2) upd_same ⟨rfl, fun j x ns hx hn => ?_⟩
  match j, hx, hn with
  | 0, hx, hn => cases Option.some.inj hx; cases Option.some.inj hn; exact ⟨p, rfl, f2 _ _ upd_same⟩⟩⟩
theorem rq2 {kind : Int} {t1 t2 : TE} {ks : List Int} {rs : List (List Int)} (hk : kind = 2 ∨ kind = 3) (k : KOK ks) (ch : ChR ks rs) (l1 : EvRs t1 σ H rs) (l2 : EvL t2 σ H (ks.map V.int)) : RunQ (tTup (tCons (tC (.int kind)) (tCons (tTup (tCons t1 (tCons t2 tNil))) tNil))) σ H := fun G e Q q =>
  l1 G e _ fun p xs G1 e1 hpv rr => l2 G1 (e.trans e1) _ fun p2 G2 hp2 e2 hpv2 => ⟨two_le, fun vt hv => ⟨two_le, fun t ht => by
    have f1 := Ex.new (o := .tup [.ref p, .ref p2]) hv
    have f2 := Ex.new (o := .tup [.int kind, .ref vt]) ht
    exact q t _ (((e1.trans e2).trans f1).trans f2) ⟨kind, vt, [.ref p, .ref p2], upd_same, f2 _ _ upd_same, .rank hk (f2 _ _ (f1 _ _ (e2 _ _ hpv))) (rr.ex ((e2.trans f1).trans f2)) (.inl (f2 _ _ (f1 _ _ hpv2))) (fresh_back e1 hp2) k ch⟩⟩⟩
theorem rqa_nil : RunQA tNil σ H 0 := fun G _ Q k => k [] G (Ex.refl _) (fun t ht => by cases ht) rfl
theorem rqa_cons (h : RunQ te σ H) (r : RunQA ta σ H m) : RunQA (tCons te ta) σ H (m + 1) := fun G e Q k =>
  h G e _ fun t G1 e1 at_ => r G1 (e.trans e1) _ fun ts G2 e2 all hl => k (t :: ts) G2 (e1.trans e2) (fun u hu => by
    rcases List.mem_cons.mp hu with rfl | hu
    · exact at_.ex e2
    · exact (all u hu).of fun a ha => fresh_back e1 ha) (by rw [List.length_cons, hl])
theorem q_ext {H1 : Hp} {b A : Addr} {ts : List Addr} {tz : TS} {D : Ends} (J : Aj H1 b A n ts H) (h6 : σ[6]? = some (some (.ref A))) (r : RunQA ta σ H m) (hm : ts.length + m ≤ 400)
    (k : ∀ us G, Aj H1 b A n us G → us.length = ts.length + m → tz D σ G) : tSeq (tDrop (tBM K "list" rExtend (tVar 6) (tCons (tLst ta) tNil))) tz D σ H := by
  refine ⟨_, h6, .inl ⟨rfl, _, SqL.of J.dir⟩, ?_⟩
  refine r H (Ex.refl _) _ fun us G e all hl => ⟨sz_of (by rw [List.length_map]; omega), fun L hL => ?_⟩
  have e2 := Ex.new (o := .lst (us.map V.ref)) hL
  have J2 := (J.exx e).exx e2
  refine ⟨A, L, _, _, rfl, rfl, J2.dir, upd_same, Nat.le_of_lt (small1000 (by rw [List.length_map, List.length_map]; omega)), ?_⟩
  exact k (ts ++ us) _ (J2.add (fun t ht => ((all t ht).ex e2).of fun a ha => J.fr ha) (by rw [List.map_append])) (by rw [List.length_append, hl])
end
def spLaw (K : PySem.W.Frag) : Sp := fun vs H Q _ => ∃ (a : Addr) (ns : List Int), vs = [.ref a] ∧ SqL K H a (ns.map V.int) ∧ ns.length ≤ 63 ∧ ∀ H', Q (.bl true) H'
theorem ok_law (T : TK K mg) : FnOk P w K mg base CX0 11 T.law.a T.law.fd ["script"] (spLaw K) := by
  refine T.law.F.ok sc_law (fun vs H Q E h => ?_) (fun cdv A outer s H vs Q E hr h => ?_)
  · obtain ⟨a, ns, rfl, _⟩ := h; rfl
  obtain ⟨a, ns, rfl, hS, h63, q⟩ := h
  refine ⟨_, (pss_cons (ps_for PassesOwn.never rfl (pi_range1 rfl T.z_range (pa_cons (pe_callB (call_max2 rfl) (by rfl) T.z_max (by decide +kernel) (pa_cons pe_int (pa_cons (pe_callB (call_min2 rfl) (by rfl) T.z_min (by decide +kernel) (pa_cons pe_int (pa_cons (pe_callB (klen K) (by rfl) T.z_len (by decide +kernel) (pa_cons (pv 0) pa_nil)) pa_nil))) pa_nil))) pa_nil)) (pg_name (i := 1) sc_law.nd rfl (Or.inl rfl)) (pss_cons (ps_set (i := 2) sc_law.nd rfl (Or.inl rfl) (pe_call (ok_law_box T.toTA1) (hr.mono (by decide)) rfl T.law_box.m T.law_box.F.kp T.law_box.b .nil pass0 (pa_cons (pe_call (ok_law_cell T.toTA1) (hr.mono (by decide)) rfl T.law_cell.m T.law_cell.F.kp T.law_cell.b .nil pass0 (pa_cons (pv 0) (pa_cons (pv 1) pa_nil))) pa_nil)))
    (pss_cons (ps_par3 (i := 3) (j := 4) (l := 5) (by rfl) sc_law.nd rfl rfl rfl (by decide) (by decide) (by decide) rfl rfl rfl (pa_cons (pe_call (ok_law_take T.toTA1) (hr.mono (by decide)) rfl T.law_take.m T.law_take.F.kp T.law_take.b .nil pass0 (pa_cons (pv 2) (pa_cons pe_int pa_nil))) (pa_cons (pe_op op_add pe_int (pe_call (ok_law_take T.toTA1) (hr.mono (by decide)) rfl T.law_take.m T.law_take.F.kp T.law_take.b .nil pass0 (pa_cons (pv 2) (pa_cons pe_int pa_nil)))) (pa_cons (pe_ix (kixl K) (pe_lst (pa_cons pe_int (pa_cons pe_int (pa_cons pe_int (pa_cons pe_int pa_nil))))) (pe_call (ok_law_take T.toTA1) (hr.mono (by decide)) rfl T.law_take.m T.law_take.F.kp T.law_take.b .nil pass0 (pa_cons (pv 2) (pa_cons pe_int pa_nil))) (fun _ _ => rfl)) pa_nil))) (by rfl))
    (pss_cons (ps_set (i := 6) sc_law.nd rfl (Or.inl rfl) (pe_op op_cat (pe_op op_cat (pe_call (ok_law_asked T) (hr.mono (by decide)) rfl T.law_asked.m T.law_asked.F.kp T.law_asked.b .nil pass0 (pa_cons (pv 2) (pa_cons (pv 5) pa_nil))) (pe_call (ok_law_asked T) (hr.mono (by decide)) rfl T.law_asked.m T.law_asked.F.kp T.law_asked.b .nil pass0 (pa_cons (pv 2) (pa_cons (pe_call (ok_law_take T.toTA1) (hr.mono (by decide)) rfl T.law_take.m T.law_take.F.kp T.law_take.b .nil pass0 (pa_cons (pv 2) (pa_cons pe_int pa_nil))) pa_nil)))) (pe_call (ok_law_asked T) (hr.mono (by decide)) rfl T.law_asked.m T.law_asked.F.kp T.law_asked.b .nil pass0 (pa_cons (pv 2) (pa_cons (pe_call (ok_law_take T.toTA1) (hr.mono (by decide)) rfl T.law_take.m T.law_take.F.kp T.law_take.b .nil pass0 (pa_cons (pv 2) (pa_cons pe_int pa_nil))) pa_nil)))))
    (pss_cons (ps_expr (pe_bm PySem.F.plainAttrs_list PySem.F.slot_list_extend PySem.F.type_list_extend mt_extend (pv 6) (pa_cons (pe_lst (pa_cons (pe_tup (pa_cons pe_int (pa_cons (pe_tup (pa_cons pe_int (pa_cons (pe_lst pa_nil) pa_nil))) pa_nil))) (pa_cons (pe_tup (pa_cons pe_int (pa_cons (pe_tup (pa_cons pe_int (pa_cons (pe_lst pa_nil) pa_nil))) pa_nil))) (pa_cons (pe_tup (pa_cons pe_int (pa_cons (pe_tup (pa_cons pe_int (pa_cons (pe_op op_rep (pe_lst (pa_cons pe_int pa_nil)) pe_int) pa_nil))) pa_nil))) (pa_cons (pe_tup (pa_cons pe_int (pa_cons (pe_tup (pa_cons pe_int (pa_cons (pe_op op_rep (pe_lst (pa_cons pe_int pa_nil)) pe_int) pa_nil))) pa_nil))) (pa_cons (pe_tup (pa_cons pe_int (pa_cons (pe_tup (pa_cons pe_int (pa_cons (pe_lst (pa_cons pe_int (pa_cons pe_int pa_nil))) pa_nil))) pa_nil))) (pa_cons (pe_tup (pa_cons pe_int (pa_cons (pe_tup (pa_cons pe_int (pa_cons (pe_lst (pa_cons pe_int (pa_cons pe_int pa_nil))) pa_nil))) pa_nil))) (pa_cons (pe_tup (pa_cons pe_int (pa_cons (pe_tup (pa_cons pe_int (pa_cons (pe_lst (pa_cons pe_int (pa_cons pe_int pa_nil))) pa_nil))) pa_nil))) pa_nil)))))))) pa_nil)))
    (pss_cons (ps_expr (pe_bm PySem.F.plainAttrs_list PySem.F.slot_list_extend PySem.F.type_list_extend mt_extend (pv 6) (pa_cons (pe_lst (pa_cons (pe_tup (pa_cons pe_int (pa_cons (pe_tup (pa_cons pe_int (pa_cons (pe_lst (pa_cons pe_int (pa_cons pe_int pa_nil))) (pa_cons (pe_lst pa_nil) pa_nil)))) pa_nil))) (pa_cons (pe_tup (pa_cons pe_int (pa_cons (pe_tup (pa_cons (pe_tup pa_nil) (pa_cons (pe_lst (pa_cons pe_int (pa_cons pe_int pa_nil))) pa_nil))) pa_nil))) (pa_cons (pe_tup (pa_cons pe_int (pa_cons (pe_tup (pa_cons (pe_tup pa_nil) (pa_cons (pe_lst pa_nil) pa_nil))) pa_nil))) (pa_cons (pe_tup (pa_cons pe_int (pa_cons (pe_tup (pa_cons (pe_tup (pa_cons (pe_tup (pa_cons pe_int pa_nil)) pa_nil)) (pa_cons (pe_lst (pa_cons pe_int (pa_cons pe_int pa_nil))) pa_nil))) pa_nil))) (pa_cons (pe_tup (pa_cons pe_int (pa_cons (pe_tup (pa_cons pe_int (pa_cons (pe_lst (pa_cons pe_int pa_nil)) pa_nil))) pa_nil))) pa_nil)))))) pa_nil)))
    (pss_cons (ps_for PassesOwn.never rfl (pi_range1 rfl T.z_range (pa_cons pe_int pa_nil)) (pg_name (i := 7) sc_law.nd rfl (Or.inl rfl)) (pss_one (ps_for PassesOwn.never rfl (pi_range1 rfl T.z_range (pa_cons (pe_callB (klen K) (by rfl) T.z_len (by decide +kernel) (pa_cons (pv 6) pa_nil)) pa_nil)) (pg_name (i := 8) sc_law.nd rfl (Or.inl rfl)) (pss_one (ps_if (pt_not (pt_val (pe_call (ok_law_right T) (hr.mono (by decide)) rfl T.law_right.m T.law_right.F.kp T.law_right.b .nil pass0 (pa_cons (pe_ix (kixt K) (pe_ix (kixl K) (pv 6) (pv 8) (fun _ _ => rfl)) pe_int (fun _ _ => rfl)) (pa_cons (pe_op op_mod (pe_callTy call_int1 (by rfl) T.z_int (by decide +kernel) (pa_cons (pe_op op_add (pe_op op_add (pv 3) (pv 8)) (pv 7)) pa_nil)) pe_int) (pa_cons (pe_ix (kixt K) (pe_ix (kixl K) (pv 6) (pv 8) (fun _ _ => rfl)) pe_int (fun _ _ => rfl)) pa_nil)))))) (pss_one (ps_ret pe_bl)) pss_nil)))))
    (pss_one (ps_if (pt_not (pt_val (pe_call (ok_law_whole T) (hr.mono (by decide)) rfl T.law_whole.m T.law_whole.F.kp T.law_whole.b .nil pass0 (pa_cons (pe_call (ok_law_wires T) (hr.mono (by decide)) rfl T.law_wires.m T.law_wires.F.kp T.law_wires.b .nil pass0 (pa_cons (pv 2) (pa_cons (pv 4) pa_nil))) (pa_cons (pe_call (ok_law_sizes T) (hr.mono (by decide)) rfl T.law_sizes.m T.law_sizes.F.kp T.law_sizes.b .nil pass0 (pa_cons (pv 2) (pa_cons (pv 4) pa_nil))) (pa_cons (pv 3) pa_nil)))))) (pss_one (ps_ret pe_bl)) pss_nil)))))))))
    (pss_one (ps_ret pe_bl))), ?_⟩
  refine ⟨_, rfl, _, _, rfl, .inl ⟨_, hS, rfl⟩, _, _, rfl, _, _, rfl, _, rfl, ?_, ?_, for_range (lo := 0) (n := _)
    (fun k σ H' => Ex H H' ∧ ∃ x1 x2 x3 x4 x5 x6 x7 x8, σ = [some (.ref a), x1, x2, x3, x4, x5, x6, x7, x8]) ⟨Ex.refl _, _, _, _, _, _, _, _, _, rfl⟩ ?_ ?_⟩
  · have := (mm ((ns.map V.int).length : Int)).1
    exact Int.le_trans (by decide) this
  · have := (mm ((ns.map V.int).length : Int)).2
    exact Int.lt_of_le_of_lt this (by decide)
  · rintro k σ H1 hk ⟨e1, x1, x2, x3, x4, x5, x6, x7, x8, rfl⟩
    have hS1 := ex_l e1 hS
    have hk2 : k ≤ 2 := by
      have := (mm ((ns.map V.int).length : Int)).2
      omega
    refine ⟨_, rfl, _, rfl, a, ns, _, rfl, hS1, by omega, by omega, fun v H2 e2 => ?_⟩
    refine ⟨v, rfl, fun b H3 hb0 e3 B3 => ?_⟩
    have E13 := e2.trans e3
    have b0 : H1 b = none := fresh_back e2 hb0
    refine ⟨_, rfl, b, 2, 999999, rfl, by decide, by decide, B3, fun named H4 n0 n1 B4 k34 => ⟨_, rfl, b, 6, 999998, rfl, by decide, by decide, B4, fun f H5 f0 f1 B5 k45 => ⟨_, _, rfl, rfl, (by show 4 ≤ sizeLine; decide), fun L hL => ?_⟩⟩⟩
    have y5 := Ex.new (o := .lst [.int 16, .int 15, .int 9, .int 12]) hL
    have Lb : L ≠ b := B5.ne hL
    refine ⟨_, rfl, b, 4, 999997, rfl, by decide, by decide, B5.ex y5, fun g H6 g0 g1 B6 k56' => ?_⟩
    have k36 := (k34.trans k45).trans (But.pre y5 k56')
    obtain ⟨N, hat, hN⟩ : ∃ N : Nat, atI [V.int 16, .int 15, .int 9, .int 12] g = some (.int (N : Int)) ∧ N ≤ 16 := by
      rcases (by omega : g = 0 ∨ g = 1 ∨ g = 2 ∨ g = 3) with rfl | rfl | rfl | rfl
      · exact ⟨16, rfl, by decide⟩
      · exact ⟨15, rfl, by decide⟩
      · exact ⟨9, rfl, by decide⟩
      · exact ⟨12, rfl, by decide⟩
    refine ⟨_, _, _, _, rfl, rfl, SqL.of (k56' _ _ Lb upd_same), hat, ⟨_, _, _, rfl, ?_⟩⟩
    obtain ⟨fw, hfw⟩ : ∃ fw : Nat, 1 + f = (fw : Int) := ⟨(1 + f).toNat, by omega⟩
    have ex6 : Ex H1 H6 := fun c o h => k36 c o (ne_of_none h b0) (E13 _ _ h)
    -- the questions
    refine ⟨_, rfl, _, rfl, b, 900000, N, rfl, hN, B6.le (by decide), fun p1 ts1 H7 p10 hp1 l1 all1 B7 k67 => ⟨_, rfl, _, rfl, b, 17, 899999, rfl, by decide, by decide, B7, fun c2 H8 c20 c21 B8 k78 => ?_⟩⟩
    have J1 : Qs H1 b p1 ts1 H7 := ⟨fresh_back ex6 p10, hp1, B6.ne p10, fun t ht => (all1 t ht).of fun a ha => B6.ne ha⟩
    have J1 := J1.but B7 k78
    have k68 := k67.trans k78
    have ex8 : Ex H1 H8 := fun c o h => k68 c o (ne_of_none h b0) (ex6 _ _ h)
    obtain ⟨c2', rfl⟩ : ∃ c : Nat, c2 = (c : Int) := ⟨c2.toNat, by omega⟩
    refine ⟨b, 800000, c2', rfl, by omega, B8.le (by decide), fun p2 ts2 H9 p20 hp2 l2 all2 B9 k89 => ?_⟩
    have J2 : Qs H1 b p2 ts2 H9 := ⟨fresh_back ex8 p20, hp2, B8.ne p20, fun t ht => (all2 t ht).of fun a ha => B8.ne ha⟩
    have J1 := J1.but B8 k89
    have ex9 : Ex H1 H9 := fun c o h => k89 c o (ne_of_none h b0) (ex8 _ _ h)
    refine ⟨p1, p2, _, _, rfl, rfl, J1.dir, J2.dir, Nat.le_of_lt (small1000 (by rw [List.length_map, List.length_map]; omega)), fun p12 hp12 => ?_⟩
    have J12 := J1.cat J2 ex9 B9 hp12
    have f12 := Ex.new (o := .lst (ts1.map V.ref ++ ts2.map V.ref)) hp12
    have B9 := B9.ex f12
    have ex9 := ex9.trans f12
    generalize upd H9 p12 (.lst (ts1.map V.ref ++ ts2.map V.ref)) = H10 at J12 B9 ex9 ⊢
    refine ⟨_, rfl, _, rfl, b, 8, 799999, rfl, by decide, by decide, B9, fun c3 H11 c30 c31 B11 k1011 => ?_⟩
    have J12 := J12.but B9 k1011
    have ex11 : Ex H1 H11 := fun c o h => k1011 c o (ne_of_none h b0) (ex9 _ _ h)
    obtain ⟨c3', rfl⟩ : ∃ c : Nat, c3 = (c : Int) := ⟨c3.toNat, by omega⟩
    refine ⟨b, 700000, c3', rfl, by omega, B11.le (by decide), fun p3 ts3 H12 p30 hp3 l3 all3 B12 k1112 => ?_⟩
    have J3 : Qs H1 b p3 ts3 H12 := ⟨fresh_back ex11 p30, hp3, B11.ne p30, fun t ht => (all3 t ht).of fun a ha => B11.ne ha⟩
    have J12 := J12.but B11 k1112
    have ex12 : Ex H1 H12 := fun c o h => k1112 c o (ne_of_none h b0) (ex11 _ _ h)
    have l12 : (ts1 ++ ts2).length = 22 := by rw [List.length_append, l1, l2]
    refine ⟨p12, p3, _, _, rfl, rfl, J12.dir, J3.dir, Nat.le_of_lt (small1000 (by rw [List.length_map, List.length_map]; omega)), fun A hA => ?_⟩
    have J123 := J12.cat J3 ex12 B12 hA
    have f13 := Ex.new (o := .lst ((ts1 ++ ts2).map V.ref ++ ts3.map V.ref)) hA
    have J : Aj H1 b A 700000 ((ts1 ++ ts2) ++ ts3) (upd H12 A (.lst ((ts1 ++ ts2).map V.ref ++ ts3.map V.ref))) := by
      refine ⟨B12.ex f13, b0, J123.p0, ex12.trans f13, J123.dir, J123.ne, fun t ht => ?_⟩
      rcases List.mem_append.mp ht with h | h
      · exact ((J12.all t h).new hA).ex f13
      · exact ((J3.all t h).new hA).ex f13
    have lj : ((ts1 ++ ts2) ++ ts3).length = 33 := by rw [List.length_append, l12, l3]
    generalize upd H12 A (.lst ((ts1 ++ ts2).map V.ref ++ ts3.map V.ref)) = H13 at J ⊢
    generalize (ts1 ++ ts2) ++ ts3 = ts at J lj
    refine q_ext J rfl (rqa_cons (rq0 (c := 0) (ns := []) (by decide) ⟨by decide, by decide⟩ (el_lst ea_nil (by decide)))
      (rqa_cons (rq0 (c := 7) (ns := []) (by decide) ⟨by decide, by decide⟩ (el_lst ea_nil (by decide)))
      (rqa_cons (rq0 (c := 16) (ns := List.replicate 8 1) (by decide) ⟨by decide, by decide⟩ (el_repL (n := 8) (xs := [.int 1]) (el_lst (ea_cons ev_c ea_nil) (by decide)) (fun _ _ => ev_c) (by decide) (by decide) (by decide)))
      (rqa_cons (rq0 (c := 15) (ns := List.replicate 8 1) (by decide) ⟨by decide, by decide⟩ (el_repL (n := 8) (xs := [.int 1]) (el_lst (ea_cons ev_c ea_nil) (by decide)) (fun _ _ => ev_c) (by decide) (by decide) (by decide)))
      (rqa_cons (rq0 (c := 4) (ns := [1, 1]) (by decide) ⟨by decide, by decide⟩ (el_lst (ea_cons ev_c (ea_cons ev_c ea_nil)) (by decide)))
      (rqa_cons (rq0 (c := 2) (ns := [1, 1]) (by decide) ⟨by decide, by decide⟩ (el_lst (ea_cons ev_c (ea_cons ev_c ea_nil)) (by decide)))
      (rqa_cons (rq0 (c := 3) (ns := [1, 1]) (by decide) ⟨by decide, by decide⟩ (el_lst (ea_cons ev_c (ea_cons ev_c ea_nil)) (by decide)))
      rqa_nil))))))) (by omega) fun us0 G40 J40 hl40 => ?_
    refine q_ext J40 rfl (rqa_cons (rq1 (i := 0) (ks := [3, 9]) (ns := []) ⟨by decide, by decide, by decide⟩ ⟨by decide, by decide⟩ (el_lst (ea_cons ev_c (ea_cons ev_c ea_nil)) (by decide)) (el_lst ea_nil (by decide)))
      (rqa_cons (rq2 (kind := 2) (ks := [3, 9]) (rs := []) (by decide) ⟨by decide, by decide, by decide⟩ trivial ers_nil (el_lst (ea_cons ev_c (ea_cons ev_c ea_nil)) (by decide)))
      (rqa_cons (rq2 (kind := 3) (ks := []) (rs := []) (by decide) ⟨by decide, by decide, by decide⟩ trivial ers_nil (el_lst ea_nil (by decide)))
      (rqa_cons (rq2 (kind := 3) (ks := [3, 9]) (rs := [[9]]) (by decide) ⟨by decide, by decide, by decide⟩ ⟨(List.Sublist.refl [9]).cons 3, Nat.le_refl _, trivial⟩ ers_one (el_lst (ea_cons ev_c (ea_cons ev_c ea_nil)) (by decide)))
      (rqa_cons (rq0 (c := 0) (ns := [1]) (by decide) ⟨by decide, by decide⟩ (el_lst (ea_cons ev_c ea_nil) (by decide)))
      rqa_nil))))) (by omega) fun us G4 J4 hl4 => ?_
    have lt4 : us.length = 45 := by omega
    refine q_forR1 (j := 7) (n := 2) (ea_cons ev_c ea_nil) ⟨by decide, by decide⟩ (fun i σ H' => Ex G4 H' ∧ ∃ x7 x8, σ = [some (.ref a), some (.int (0 + (k : Int))), some (.ref b), some (.int named), some (.int (1 + f)), some (.int (N : Int)), some (.ref A), x7, x8]) (fun G e => ⟨e, _, _, rfl⟩) ?_ ?_
    · rintro i σ G hi ⟨eg, x7, x8, rfl⟩
      refine s_forR1 (j := 8) (n := (45 : Int)) (ea_cons ?_ ea_nil) ⟨by decide, by decide⟩ (fun j σ H' => Ex G4 H' ∧ ∃ x8, σ = [some (.ref a), some (.int (0 + (k : Int))), some (.ref b), some (.int named), some (.int (1 + f)), some (.int (N : Int)), some (.ref A), some (.int (i : Int)), x8]) (fun G' e => ⟨eg.trans e, _, rfl⟩) ?_ ?_
      · have := ev_lenV (K := K) (te := tVar 6) (σ := [some (.ref a), some (.int (0 + (k : Int))), some (.ref b), some (.int named), some (.int (1 + f)), some (.int (N : Int)), some (.ref A), some (.int (i : Int)), x8]) (H := G) (a := A) (ev_var rfl) (.inl (SqL.of (eg _ _ J4.dir)))
        rw [List.length_map, lt4] at this
        exact this
      · rintro j σ G' hj ⟨eg', x8', rfl⟩
        have hj' : j < us.length := by omega
        have huj : us[j]? = some us[j] := List.getElem?_eq_getElem hj'
        obtain ⟨kind, vt, xs, c1, c2, ask⟩ := J4.all _ (List.getElem_mem hj')
        have hrj : (us.map V.ref)[j]? = some (.ref us[j]) := by rw [List.getElem?_map, huj]; rfl
        have dir := eg' _ _ J4.dir
        have t1 := eg' _ _ c1
        have t2 := eg' _ _ c2
        have ask' := ask.ex eg'
        have ix : ∀ {σ : L2.St} {n : Nat} {v : V}, σ[6]? = some (some (.ref A)) → σ[8]? = some (some (.int (j : Int))) → ([V.int kind, .ref vt] : List V)[n]? = some v → Ev (tOp (rIxT K) (tOp (rIxL K) (tVar 6) (tVar 8)) (tC (.int (n : Int)))) σ G' v := fun h6 h8 hn =>
          ev_op (ev_op (ev_var h6) (ev_var h8) (rv_ixL (SqL.of dir) (atI_nat hrj))) ev_c (rv_ixT (SqT.of t1) (atI_nat hn))
        have md : ∀ {σ : L2.St}, σ[3]? = some (some (.int named)) → σ[8]? = some (some (.int (j : Int))) → σ[7]? = some (some (.int (i : Int))) → Ev (tOp (rI (fun _ j => 0 < j) fun i j => .int (i % j)) (tCB (fun xs H Q => (∃ i, xs = [V.int i] ∧ Q (V.int i) H) ∨ ∃ k, xs = [V.bl k] ∧ Q (V.int (if k = true then 1 else 0)) H) (tCons (tOp (rI0 fun i j => .int (i + j)) (tOp (rI0 fun i j => .int (i + j)) (tVar 3) (tVar 8)) (tVar 7)) tNil)) (tC (.int 2))) σ G' (.int ((named + (j : Int) + (i : Int)) % 2)) := fun h3 h8 h7 =>
          ev_op (ev_cb (ea_cons (ev_op (ev_op (ev_var h3) (ev_var h8) rv_I0) (ev_var h7) rv_I0) ea_nil) (fun H1 _ Q q => .inl ⟨_, rfl, q H1 (Ex.refl _)⟩)) ev_c (rv_I (by decide))
        have cr : ∀ {σ : L2.St}, σ[3]? = some (some (.int named)) → σ[6]? = some (some (.ref A)) → σ[7]? = some (some (.int (i : Int))) → σ[8]? = some (some (.int (j : Int))) → Ev (tCall spRight [] E0 (tCons (tOp (rIxT K) (tOp (rIxL K) (tVar 6) (tVar 8)) (tC (V.int 0))) (tCons (tOp (rI (fun _ j => 0 < j) fun i j => .int (i % j)) (tCB (fun xs H Q => (∃ i, xs = [V.int i] ∧ Q (V.int i) H) ∨ ∃ k, xs = [V.bl k] ∧ Q (V.int (if k = true then 1 else 0)) H) (tCons (tOp (rI0 fun i j => .int (i + j)) (tOp (rI0 fun i j => .int (i + j)) (tVar 3) (tVar 8)) (tVar 7)) tNil)) (tC (.int 2))) (tCons (tOp (rIxT K) (tOp (rIxL K) (tVar 6) (tVar 8)) (tC (V.int 1))) tNil)))) σ G' (.bl true) := fun h3 h6 h7 h8 =>
          ev_call (ea_cons (ix (n := 0) h6 h8 rfl) (ea_cons (md h3 h8 h7) (ea_cons (ix (n := 1) h6 h8 rfl) ea_nil))) fun H1 e Q q E => ⟨kind, _, vt, xs, _, rfl, e _ _ t2, ask'.ex e, q⟩
        refine s_when (b := false) (et_is (et_not (et_B (cr rfl rfl rfl rfl))) rfl) (fun z => nomatch z) fun _ G5 e5 => ⟨eg'.trans e5, _, rfl⟩
      · rintro σ G' ⟨eg', x8', rfl⟩
        exact ⟨eg', _, _, rfl⟩
    · rintro σ G ⟨eg, x7, x8, rfl⟩
      have J5 := J4.exx eg
      rw [hfw]
      refine ⟨_, rfl, _, rfl, b, 600000, fw, rfl, by omega, J5.box.le (by omega), fun pk ks Ga pk0 hk lk kk Ba ka => ⟨_, rfl, _, rfl, b, 500000, fw, rfl, by omega, Ba.le (by decide), fun ps ss Gb ps0 hs sk Bb kb => ?_⟩⟩
      have pkb := J5.box.ne pk0
      have kab := ka.trans kb
      refine ⟨_, rfl, pk, ps, ks, ss, named, rfl, kb _ _ pkb hk, hs, kk, by omega, sk, fun Gc ec => ⟨true, rfl, iteF ?_⟩⟩
      have exG : Ex H1 Gb := fun c o h => kab c o (ne_of_none h b0) (J5.ex _ _ h)
      exact ⟨e1.trans (exG.trans ec), _, _, _, _, _, _, _, _, rfl⟩
  · rintro σ H1 _
    exact q H1
end
end L2.U


set_option Elab.async false
set_option linter.all false
set_option maxRecDepth 100000
set_option maxHeartbeats 4000000
namespace L2.U
open PySem PySem.Spec PyProof.Rows Evl
theorem exm_of {K : PySem.W.Frag} {C D : Addr} {b : Bool} (h1 : PySem.W.subIn K (.ref D) (.type "BaseException") = some true) (h2 : PySem.W.isClsIn K D = true) (h3 : PySem.W.typeIn K (.ref D) = some (.type "type"))
    (h4 : PySem.W.subIn K (.ref C) (.ref D) = some b) : PySem.W.exmOne K (.ref C) (.ref D) = some b := by
  have h2' : (PySem.W.clsIn K D).isSome = true := h2
  unfold PySem.W.exmOne
  rw [h1, if_pos (by rfl)]
  unfold PySem.W.kitCls
  simp only [h2', h3, h4, beq_self_eq_true, Bool.and_self, if_true]
def mkDef {K : PySem.W.Frag} {h : Heap} {mg : Str → Option Value} (X : K.In h) (G : h.Ns mainGlobals mg) {x : Str} {st : Stmt} {ps : List Str} {f : Addr} {od an : Option Addr} {sl : Array (Option Value)} {oc kV dc pm cd ct : Value}
    (a : PySem.W.nsIn K mainGlobals x = some (some (.ref f))) (l : K.lookup f = some ⟨oc, od, .func (PySem.W.fnOf x x (defArgs st) (defBody st) (defScope st) .none kV dc pm an cd ct), sl⟩) (c : PySem.W.codeIn K cd x = true) (k : PySem.W.keepIn K (.ref f) = true)
    (h2 : ∀ (kV doc pm : Value) (an : Option Addr) (cdv ct : Value) (us : List Value), us.length = ps.length → bindArgs (PySem.W.fnOf x x (defArgs st) (defBody st) (defScope st) .none kV doc pm an cdv ct) ⟨us, []⟩ = pure (ps.zip us)) : DefAt K mg x st ps :=
  ⟨f, _, fun_mk (st := st) l c k, PySem.W.mg_of X G a, (fun_mk (st := st) l c k).binds h2⟩

theorem all_mk {l : PySem.W.OpenLaw} {w : World} {K : PySem.W.Frag} {h : Heap} {mg : Str → Option Value} {fa : Addr} (X : K.In h) (G : h.Ns mainGlobals mg) (hfa : mg "law" = some (.ref fa))
    {f1 : Addr} {od1 an1 : Option Addr} {sl1 : Array (Option Value)} {oc1 kV1 dc1 pm1 cd1 ct1 : Value}
    {f2 : Addr} {od2 an2 : Option Addr} {sl2 : Array (Option Value)} {oc2 kV2 dc2 pm2 cd2 ct2 : Value}
    {f3 : Addr} {od3 an3 : Option Addr} {sl3 : Array (Option Value)} {oc3 kV3 dc3 pm3 cd3 ct3 : Value}
    {f4 : Addr} {od4 an4 : Option Addr} {sl4 : Array (Option Value)} {oc4 kV4 dc4 pm4 cd4 ct4 : Value}
    {f5 : Addr} {od5 an5 : Option Addr} {sl5 : Array (Option Value)} {oc5 kV5 dc5 pm5 cd5 ct5 : Value}
    {f6 : Addr} {od6 an6 : Option Addr} {sl6 : Array (Option Value)} {oc6 kV6 dc6 pm6 cd6 ct6 : Value}
    {f7 : Addr} {od7 an7 : Option Addr} {sl7 : Array (Option Value)} {oc7 kV7 dc7 pm7 cd7 ct7 : Value}
    {f8 : Addr} {od8 an8 : Option Addr} {sl8 : Array (Option Value)} {oc8 kV8 dc8 pm8 cd8 ct8 : Value}
    {f9 : Addr} {od9 an9 : Option Addr} {sl9 : Array (Option Value)} {oc9 kV9 dc9 pm9 cd9 ct9 : Value}
    {f10 : Addr} {od10 an10 : Option Addr} {sl10 : Array (Option Value)} {oc10 kV10 dc10 pm10 cd10 ct10 : Value}
    {f11 : Addr} {od11 an11 : Option Addr} {sl11 : Array (Option Value)} {oc11 kV11 dc11 pm11 cd11 ct11 : Value}
    {f12 : Addr} {od12 an12 : Option Addr} {sl12 : Array (Option Value)} {oc12 kV12 dc12 pm12 cd12 ct12 : Value}
    {f13 : Addr} {od13 an13 : Option Addr} {sl13 : Array (Option Value)} {oc13 kV13 dc13 pm13 cd13 ct13 : Value}
    {f14 : Addr} {od14 an14 : Option Addr} {sl14 : Array (Option Value)} {oc14 kV14 dc14 pm14 cd14 ct14 : Value}
    {f15 : Addr} {od15 an15 : Option Addr} {sl15 : Array (Option Value)} {oc15 kV15 dc15 pm15 cd15 ct15 : Value}
    {f16 : Addr} {od16 an16 : Option Addr} {sl16 : Array (Option Value)} {oc16 kV16 dc16 pm16 cd16 ct16 : Value}
    {f17 : Addr} {od17 an17 : Option Addr} {sl17 : Array (Option Value)} {oc17 kV17 dc17 pm17 cd17 ct17 : Value}
    {f18 : Addr} {od18 an18 : Option Addr} {sl18 : Array (Option Value)} {oc18 kV18 dc18 pm18 cd18 ct18 : Value}
    {f19 : Addr} {od19 an19 : Option Addr} {sl19 : Array (Option Value)} {oc19 kV19 dc19 pm19 cd19 ct19 : Value}
    {f20 : Addr} {od20 an20 : Option Addr} {sl20 : Array (Option Value)} {oc20 kV20 dc20 pm20 cd20 ct20 : Value}
    {f21 : Addr} {od21 an21 : Option Addr} {sl21 : Array (Option Value)} {oc21 kV21 dc21 pm21 cd21 ct21 : Value}
    {f22 : Addr} {od22 an22 : Option Addr} {sl22 : Array (Option Value)} {oc22 kV22 dc22 pm22 cd22 ct22 : Value}
    {f23 : Addr} {od23 an23 : Option Addr} {sl23 : Array (Option Value)} {oc23 kV23 dc23 pm23 cd23 ct23 : Value}
    {f24 : Addr} {od24 an24 : Option Addr} {sl24 : Array (Option Value)} {oc24 kV24 dc24 pm24 cd24 ct24 : Value}
    {f25 : Addr} {od25 an25 : Option Addr} {sl25 : Array (Option Value)} {oc25 kV25 dc25 pm25 cd25 ct25 : Value}
    {f26 : Addr} {od26 an26 : Option Addr} {sl26 : Array (Option Value)} {oc26 kV26 dc26 pm26 cd26 ct26 : Value}
    {f27 : Addr} {od27 an27 : Option Addr} {sl27 : Array (Option Value)} {oc27 kV27 dc27 pm27 cd27 ct27 : Value}
    {f28 : Addr} {od28 an28 : Option Addr} {sl28 : Array (Option Value)} {oc28 kV28 dc28 pm28 cd28 ct28 : Value}
    {f29 : Addr} {od29 an29 : Option Addr} {sl29 : Array (Option Value)} {oc29 kV29 dc29 pm29 cd29 ct29 : Value}
    {f30 : Addr} {od30 an30 : Option Addr} {sl30 : Array (Option Value)} {oc30 kV30 dc30 pm30 cd30 ct30 : Value}
    {f31 : Addr} {od31 an31 : Option Addr} {sl31 : Array (Option Value)} {oc31 kV31 dc31 pm31 cd31 ct31 : Value}
    {f32 : Addr} {od32 an32 : Option Addr} {sl32 : Array (Option Value)} {oc32 kV32 dc32 pm32 cd32 ct32 : Value}
    {f33 : Addr} {od33 an33 : Option Addr} {sl33 : Array (Option Value)} {oc33 kV33 dc33 pm33 cd33 ct33 : Value}
    {f34 : Addr} {od34 an34 : Option Addr} {sl34 : Array (Option Value)} {oc34 kV34 dc34 pm34 cd34 ct34 : Value}
    {f35 : Addr} {od35 an35 : Option Addr} {sl35 : Array (Option Value)} {oc35 kV35 dc35 pm35 cd35 ct35 : Value}
    {f36 : Addr} {od36 an36 : Option Addr} {sl36 : Array (Option Value)} {oc36 kV36 dc36 pm36 cd36 ct36 : Value}
    {f37 : Addr} {od37 an37 : Option Addr} {sl37 : Array (Option Value)} {oc37 kV37 dc37 pm37 cd37 ct37 : Value}
    {f38 : Addr} {od38 an38 : Option Addr} {sl38 : Array (Option Value)} {oc38 kV38 dc38 pm38 cd38 ct38 : Value}
    {f39 : Addr} {od39 an39 : Option Addr} {sl39 : Array (Option Value)} {oc39 kV39 dc39 pm39 cd39 ct39 : Value}
    {f40 : Addr} {od40 an40 : Option Addr} {sl40 : Array (Option Value)} {oc40 kV40 dc40 pm40 cd40 ct40 : Value}
    {f41 : Addr} {od41 an41 : Option Addr} {sl41 : Array (Option Value)} {oc41 kV41 dc41 pm41 cd41 ct41 : Value}
    {f42 : Addr} {od42 an42 : Option Addr} {sl42 : Array (Option Value)} {oc42 kV42 dc42 pm42 cd42 ct42 : Value}
    {f43 : Addr} {od43 an43 : Option Addr} {sl43 : Array (Option Value)} {oc43 kV43 dc43 pm43 cd43 ct43 : Value}
    {f44 : Addr} {od44 an44 : Option Addr} {sl44 : Array (Option Value)} {oc44 kV44 dc44 pm44 cd44 ct44 : Value}
    {t_MOST_KINDS : Tok}
    {t_LAST_KIND : Tok}
    {t_ON_WIRES : Tok}
    {CT : Addr}
    {CInvalidNumber NInvalidNumber fIInvalidNumber : Addr} {nmInvalidNumber qInvalidNumber : Str} {bsInvalidNumber : List Value} {snInvalidNumber : List Str} {subInvalidNumber : List Value} {abInvalidNumber : Bool} {colInvalidNumber : Option Bool} {ddInvalidNumber : Option Addr} {m0InvalidNumber m1InvalidNumber m2InvalidNumber m3InvalidNumber m5InvalidNumber : Option Value}
    {odInvalidNumber anInvalidNumber : Option Addr} {slInvalidNumber : Array (Option Value)} {ocInvalidNumber kVInvalidNumber dcInvalidNumber pmInvalidNumber cdInvalidNumber ctInvalidNumber : Value}
    {CInvalidKinds NInvalidKinds fIInvalidKinds : Addr} {nmInvalidKinds qInvalidKinds : Str} {bsInvalidKinds : List Value} {snInvalidKinds : List Str} {subInvalidKinds : List Value} {abInvalidKinds : Bool} {colInvalidKinds : Option Bool} {ddInvalidKinds : Option Addr} {m0InvalidKinds m1InvalidKinds m2InvalidKinds m3InvalidKinds m5InvalidKinds : Option Value}
    {odInvalidKinds anInvalidKinds : Option Addr} {slInvalidKinds : Array (Option Value)} {ocInvalidKinds kVInvalidKinds dcInvalidKinds pmInvalidKinds cdInvalidKinds ctInvalidKinds : Value}
    {CInvalidSizes NInvalidSizes fIInvalidSizes : Addr} {nmInvalidSizes qInvalidSizes : Str} {bsInvalidSizes : List Value} {snInvalidSizes : List Str} {subInvalidSizes : List Value} {abInvalidSizes : Bool} {colInvalidSizes : Option Bool} {ddInvalidSizes : Option Addr} {m0InvalidSizes m1InvalidSizes m2InvalidSizes m3InvalidSizes m5InvalidSizes : Option Value}
    {odInvalidSizes anInvalidSizes : Option Addr} {slInvalidSizes : Array (Option Value)} {ocInvalidSizes kVInvalidSizes dcInvalidSizes pmInvalidSizes cdInvalidSizes ctInvalidSizes : Value}
    {CInvalidRank NInvalidRank fIInvalidRank : Addr} {nmInvalidRank qInvalidRank : Str} {bsInvalidRank : List Value} {snInvalidRank : List Str} {subInvalidRank : List Value} {abInvalidRank : Bool} {colInvalidRank : Option Bool} {ddInvalidRank : Option Addr} {m0InvalidRank m1InvalidRank m2InvalidRank m3InvalidRank m5InvalidRank : Option Value}
    {odInvalidRank anInvalidRank : Option Addr} {slInvalidRank : Array (Option Value)} {ocInvalidRank kVInvalidRank dcInvalidRank pmInvalidRank cdInvalidRank ctInvalidRank : Value}
    {CInvalidRounds NInvalidRounds fIInvalidRounds : Addr} {nmInvalidRounds qInvalidRounds : Str} {bsInvalidRounds : List Value} {snInvalidRounds : List Str} {subInvalidRounds : List Value} {abInvalidRounds : Bool} {colInvalidRounds : Option Bool} {ddInvalidRounds : Option Addr} {m0InvalidRounds m1InvalidRounds m2InvalidRounds m3InvalidRounds m5InvalidRounds : Option Value}
    {odInvalidRounds anInvalidRounds : Option Addr} {slInvalidRounds : Array (Option Value)} {ocInvalidRounds kVInvalidRounds dcInvalidRounds pmInvalidRounds cdInvalidRounds ctInvalidRounds : Value}
    (a1 : PySem.W.nsIn K mainGlobals "is_integer" = some (some (.ref f1)))
    (l1 : K.lookup f1 = some ⟨oc1, od1, .func (PySem.W.fnOf "is_integer" "is_integer" (defArgs s_is_integer) (defBody s_is_integer) (defScope s_is_integer) .none kV1 dc1 pm1 an1 cd1 ct1), sl1⟩)
    (c1 : PySem.W.codeIn K cd1 "is_integer" = true)
    (k1 : PySem.W.keepIn K (.ref f1) = true)
    (a2 : PySem.W.nsIn K mainGlobals "is_between" = some (some (.ref f2)))
    (l2 : K.lookup f2 = some ⟨oc2, od2, .func (PySem.W.fnOf "is_between" "is_between" (defArgs s_is_between) (defBody s_is_between) (defScope s_is_between) .none kV2 dc2 pm2 an2 cd2 ct2), sl2⟩)
    (c2 : PySem.W.codeIn K cd2 "is_between" = true)
    (k2 : PySem.W.keepIn K (.ref f2) = true)
    (a3 : PySem.W.nsIn K mainGlobals "is_from" = some (some (.ref f3)))
    (l3 : K.lookup f3 = some ⟨oc3, od3, .func (PySem.W.fnOf "is_from" "is_from" (defArgs s_is_from) (defBody s_is_from) (defScope s_is_from) .none kV3 dc3 pm3 an3 cd3 ct3), sl3⟩)
    (c3 : PySem.W.codeIn K cd3 "is_from" = true)
    (k3 : PySem.W.keepIn K (.ref f3) = true)
    (a4 : PySem.W.nsIn K mainGlobals "is_list" = some (some (.ref f4)))
    (l4 : K.lookup f4 = some ⟨oc4, od4, .func (PySem.W.fnOf "is_list" "is_list" (defArgs s_is_list) (defBody s_is_list) (defScope s_is_list) .none kV4 dc4 pm4 an4 cd4 ct4), sl4⟩)
    (c4 : PySem.W.codeIn K cd4 "is_list" = true)
    (k4 : PySem.W.keepIn K (.ref f4) = true)
    (a5 : PySem.W.nsIn K mainGlobals "are_from" = some (some (.ref f5)))
    (l5 : K.lookup f5 = some ⟨oc5, od5, .func (PySem.W.fnOf "are_from" "are_from" (defArgs s_are_from) (defBody s_are_from) (defScope s_are_from) .none kV5 dc5 pm5 an5 cd5 ct5), sl5⟩)
    (c5 : PySem.W.codeIn K cd5 "are_from" = true)
    (k5 : PySem.W.keepIn K (.ref f5) = true)
    (a6 : PySem.W.nsIn K mainGlobals "many_raised" = some (some (.ref f6)))
    (l6 : K.lookup f6 = some ⟨oc6, od6, .func (PySem.W.fnOf "many_raised" "many_raised" (defArgs s_many_raised) (defBody s_many_raised) (defScope s_many_raised) .none kV6 dc6 pm6 an6 cd6 ct6), sl6⟩)
    (c6 : PySem.W.codeIn K cd6 "many_raised" = true)
    (k6 : PySem.W.keepIn K (.ref f6) = true)
    (a7 : PySem.W.nsIn K mainGlobals "raised_of" = some (some (.ref f7)))
    (l7 : K.lookup f7 = some ⟨oc7, od7, .func (PySem.W.fnOf "raised_of" "raised_of" (defArgs s_raised_of) (defBody s_raised_of) (defScope s_raised_of) .none kV7 dc7 pm7 an7 cd7 ct7), sl7⟩)
    (c7 : PySem.W.codeIn K cd7 "raised_of" = true)
    (k7 : PySem.W.keepIn K (.ref f7) = true)
    (a8 : PySem.W.nsIn K mainGlobals "raised_rank" = some (some (.ref f8)))
    (l8 : K.lookup f8 = some ⟨oc8, od8, .func (PySem.W.fnOf "raised_rank" "raised_rank" (defArgs s_raised_rank) (defBody s_raised_rank) (defScope s_raised_rank) .none kV8 dc8 pm8 an8 cd8 ct8), sl8⟩)
    (c8 : PySem.W.codeIn K cd8 "raised_rank" = true)
    (k8 : PySem.W.keepIn K (.ref f8) = true)
    (a9 : PySem.W.nsIn K mainGlobals "answers_of" = some (some (.ref f9)))
    (l9 : K.lookup f9 = some ⟨oc9, od9, .func (PySem.W.fnOf "answers_of" "answers_of" (defArgs s_answers_of) (defBody s_answers_of) (defScope s_answers_of) .none kV9 dc9 pm9 an9 cd9 ct9), sl9⟩)
    (c9 : PySem.W.codeIn K cd9 "answers_of" = true)
    (k9 : PySem.W.keepIn K (.ref f9) = true)
    (a10 : PySem.W.nsIn K mainGlobals "_many" = some (some (.ref f10)))
    (l10 : K.lookup f10 = some ⟨oc10, od10, .func (PySem.W.fnOf "_many" "_many" (defArgs s_many) (defBody s_many) (defScope s_many) .none kV10 dc10 pm10 an10 cd10 ct10), sl10⟩)
    (c10 : PySem.W.codeIn K cd10 "_many" = true)
    (k10 : PySem.W.keepIn K (.ref f10) = true)
    (a11 : PySem.W.nsIn K mainGlobals "rounds_at" = some (some (.ref f11)))
    (l11 : K.lookup f11 = some ⟨oc11, od11, .func (PySem.W.fnOf "rounds_at" "rounds_at" (defArgs s_rounds_at) (defBody s_rounds_at) (defScope s_rounds_at) .none kV11 dc11 pm11 an11 cd11 ct11), sl11⟩)
    (c11 : PySem.W.codeIn K cd11 "rounds_at" = true)
    (k11 : PySem.W.keepIn K (.ref f11) = true)
    (a12 : PySem.W.nsIn K mainGlobals "rank_at" = some (some (.ref f12)))
    (l12 : K.lookup f12 = some ⟨oc12, od12, .func (PySem.W.fnOf "rank_at" "rank_at" (defArgs s_rank_at) (defBody s_rank_at) (defScope s_rank_at) .none kV12 dc12 pm12 an12 cd12 ct12), sl12⟩)
    (c12 : PySem.W.codeIn K cd12 "rank_at" = true)
    (k12 : PySem.W.keepIn K (.ref f12) = true)
    (a13 : PySem.W.nsIn K mainGlobals "_many_chosen" = some (some (.ref f13)))
    (l13 : K.lookup f13 = some ⟨oc13, od13, .func (PySem.W.fnOf "_many_chosen" "_many_chosen" (defArgs s_many_chosen) (defBody s_many_chosen) (defScope s_many_chosen) .none kV13 dc13 pm13 an13 cd13 ct13), sl13⟩)
    (c13 : PySem.W.codeIn K cd13 "_many_chosen" = true)
    (k13 : PySem.W.keepIn K (.ref f13) = true)
    (a14 : PySem.W.nsIn K mainGlobals "behind" = some (some (.ref f14)))
    (l14 : K.lookup f14 = some ⟨oc14, od14, .func (PySem.W.fnOf "behind" "behind" (defArgs s_behind) (defBody s_behind) (defScope s_behind) .none kV14 dc14 pm14 an14 cd14 ct14), sl14⟩)
    (c14 : PySem.W.codeIn K cd14 "behind" = true)
    (k14 : PySem.W.keepIn K (.ref f14) = true)
    (a15 : PySem.W.nsIn K mainGlobals "_chosen_at" = some (some (.ref f15)))
    (l15 : K.lookup f15 = some ⟨oc15, od15, .func (PySem.W.fnOf "_chosen_at" "_chosen_at" (defArgs s_chosen_at) (defBody s_chosen_at) (defScope s_chosen_at) .none kV15 dc15 pm15 an15 cd15 ct15), sl15⟩)
    (c15 : PySem.W.codeIn K cd15 "_chosen_at" = true)
    (k15 : PySem.W.keepIn K (.ref f15) = true)
    (a16 : PySem.W.nsIn K mainGlobals "_chosen_rank" = some (some (.ref f16)))
    (l16 : K.lookup f16 = some ⟨oc16, od16, .func (PySem.W.fnOf "_chosen_rank" "_chosen_rank" (defArgs s_chosen_rank) (defBody s_chosen_rank) (defScope s_chosen_rank) .none kV16 dc16 pm16 an16 cd16 ct16), sl16⟩)
    (c16 : PySem.W.codeIn K cd16 "_chosen_rank" = true)
    (k16 : PySem.W.keepIn K (.ref f16) = true)
    (a17 : PySem.W.nsIn K mainGlobals "_check_count" = some (some (.ref f17)))
    (l17 : K.lookup f17 = some ⟨oc17, od17, .func (PySem.W.fnOf "_check_count" "_check_count" (defArgs s_check_count) (defBody s_check_count) (defScope s_check_count) .none kV17 dc17 pm17 an17 cd17 ct17), sl17⟩)
    (c17 : PySem.W.codeIn K cd17 "_check_count" = true)
    (k17 : PySem.W.keepIn K (.ref f17) = true)
    (a18 : PySem.W.nsIn K mainGlobals "_check_kinds" = some (some (.ref f18)))
    (l18 : K.lookup f18 = some ⟨oc18, od18, .func (PySem.W.fnOf "_check_kinds" "_check_kinds" (defArgs s_check_kinds) (defBody s_check_kinds) (defScope s_check_kinds) .none kV18 dc18 pm18 an18 cd18 ct18), sl18⟩)
    (c18 : PySem.W.codeIn K cd18 "_check_kinds" = true)
    (k18 : PySem.W.keepIn K (.ref f18) = true)
    (a19 : PySem.W.nsIn K mainGlobals "_check_sizes" = some (some (.ref f19)))
    (l19 : K.lookup f19 = some ⟨oc19, od19, .func (PySem.W.fnOf "_check_sizes" "_check_sizes" (defArgs s_check_sizes) (defBody s_check_sizes) (defScope s_check_sizes) .none kV19 dc19 pm19 an19 cd19 ct19), sl19⟩)
    (c19 : PySem.W.codeIn K cd19 "_check_sizes" = true)
    (k19 : PySem.W.keepIn K (.ref f19) = true)
    (a20 : PySem.W.nsIn K mainGlobals "_check_rank" = some (some (.ref f20)))
    (l20 : K.lookup f20 = some ⟨oc20, od20, .func (PySem.W.fnOf "_check_rank" "_check_rank" (defArgs s_check_rank) (defBody s_check_rank) (defScope s_check_rank) .none kV20 dc20 pm20 an20 cd20 ct20), sl20⟩)
    (c20 : PySem.W.codeIn K cd20 "_check_rank" = true)
    (k20 : PySem.W.keepIn K (.ref f20) = true)
    (a21 : PySem.W.nsIn K mainGlobals "_check_rounds" = some (some (.ref f21)))
    (l21 : K.lookup f21 = some ⟨oc21, od21, .func (PySem.W.fnOf "_check_rounds" "_check_rounds" (defArgs s_check_rounds) (defBody s_check_rounds) (defScope s_check_rounds) .none kV21 dc21 pm21 an21 cd21 ct21), sl21⟩)
    (c21 : PySem.W.codeIn K cd21 "_check_rounds" = true)
    (k21 : PySem.W.keepIn K (.ref f21) = true)
    (a22 : PySem.W.nsIn K mainGlobals "_are_rounds" = some (some (.ref f22)))
    (l22 : K.lookup f22 = some ⟨oc22, od22, .func (PySem.W.fnOf "_are_rounds" "_are_rounds" (defArgs s_are_rounds) (defBody s_are_rounds) (defScope s_are_rounds) .none kV22 dc22 pm22 an22 cd22 ct22), sl22⟩)
    (c22 : PySem.W.codeIn K cd22 "_are_rounds" = true)
    (k22 : PySem.W.keepIn K (.ref f22) = true)
    (a23 : PySem.W.nsIn K mainGlobals "_is_chosen" = some (some (.ref f23)))
    (l23 : K.lookup f23 = some ⟨oc23, od23, .func (PySem.W.fnOf "_is_chosen" "_is_chosen" (defArgs s_is_chosen) (defBody s_is_chosen) (defScope s_is_chosen) .none kV23 dc23 pm23 an23 cd23 ct23), sl23⟩)
    (c23 : PySem.W.codeIn K cd23 "_is_chosen" = true)
    (k23 : PySem.W.keepIn K (.ref f23) = true)
    (a24 : PySem.W.nsIn K mainGlobals "is_ascending" = some (some (.ref f24)))
    (l24 : K.lookup f24 = some ⟨oc24, od24, .func (PySem.W.fnOf "is_ascending" "is_ascending" (defArgs s_is_ascending) (defBody s_is_ascending) (defScope s_is_ascending) .none kV24 dc24 pm24 an24 cd24 ct24), sl24⟩)
    (c24 : PySem.W.codeIn K cd24 "is_ascending" = true)
    (k24 : PySem.W.keepIn K (.ref f24) = true)
    (a25 : PySem.W.nsIn K mainGlobals "are_between" = some (some (.ref f25)))
    (l25 : K.lookup f25 = some ⟨oc25, od25, .func (PySem.W.fnOf "are_between" "are_between" (defArgs s_are_between) (defBody s_are_between) (defScope s_are_between) .none kV25 dc25 pm25 an25 cd25 ct25), sl25⟩)
    (c25 : PySem.W.codeIn K cd25 "are_between" = true)
    (k25 : PySem.W.keepIn K (.ref f25) = true)
    (a26 : PySem.W.nsIn K mainGlobals "_law_cell" = some (some (.ref f26)))
    (l26 : K.lookup f26 = some ⟨oc26, od26, .func (PySem.W.fnOf "_law_cell" "_law_cell" (defArgs s_law_cell) (defBody s_law_cell) (defScope s_law_cell) .none kV26 dc26 pm26 an26 cd26 ct26), sl26⟩)
    (c26 : PySem.W.codeIn K cd26 "_law_cell" = true)
    (k26 : PySem.W.keepIn K (.ref f26) = true)
    (a27 : PySem.W.nsIn K mainGlobals "_law_box" = some (some (.ref f27)))
    (l27 : K.lookup f27 = some ⟨oc27, od27, .func (PySem.W.fnOf "_law_box" "_law_box" (defArgs s_law_box) (defBody s_law_box) (defScope s_law_box) .none kV27 dc27 pm27 an27 cd27 ct27), sl27⟩)
    (c27 : PySem.W.codeIn K cd27 "_law_box" = true)
    (k27 : PySem.W.keepIn K (.ref f27) = true)
    (a28 : PySem.W.nsIn K mainGlobals "_law_take" = some (some (.ref f28)))
    (l28 : K.lookup f28 = some ⟨oc28, od28, .func (PySem.W.fnOf "_law_take" "_law_take" (defArgs s_law_take) (defBody s_law_take) (defScope s_law_take) .none kV28 dc28 pm28 an28 cd28 ct28), sl28⟩)
    (c28 : PySem.W.codeIn K cd28 "_law_take" = true)
    (k28 : PySem.W.keepIn K (.ref f28) = true)
    (a29 : PySem.W.nsIn K mainGlobals "_law_same" = some (some (.ref f29)))
    (l29 : K.lookup f29 = some ⟨oc29, od29, .func (PySem.W.fnOf "_law_same" "_law_same" (defArgs s_law_same) (defBody s_law_same) (defScope s_law_same) .none kV29 dc29 pm29 an29 cd29 ct29), sl29⟩)
    (c29 : PySem.W.codeIn K cd29 "_law_same" = true)
    (k29 : PySem.W.keepIn K (.ref f29) = true)
    (a30 : PySem.W.nsIn K mainGlobals "_law_choose" = some (some (.ref f30)))
    (l30 : K.lookup f30 = some ⟨oc30, od30, .func (PySem.W.fnOf "_law_choose" "_law_choose" (defArgs s_law_choose) (defBody s_law_choose) (defScope s_law_choose) .none kV30 dc30 pm30 an30 cd30 ct30), sl30⟩)
    (c30 : PySem.W.codeIn K cd30 "_law_choose" = true)
    (k30 : PySem.W.keepIn K (.ref f30) = true)
    (a31 : PySem.W.nsIn K mainGlobals "_law_many" = some (some (.ref f31)))
    (l31 : K.lookup f31 = some ⟨oc31, od31, .func (PySem.W.fnOf "_law_many" "_law_many" (defArgs s_law_many) (defBody s_law_many) (defScope s_law_many) .none kV31 dc31 pm31 an31 cd31 ct31), sl31⟩)
    (c31 : PySem.W.codeIn K cd31 "_law_many" = true)
    (k31 : PySem.W.keepIn K (.ref f31) = true)
    (a32 : PySem.W.nsIn K mainGlobals "_law_ahead" = some (some (.ref f32)))
    (l32 : K.lookup f32 = some ⟨oc32, od32, .func (PySem.W.fnOf "_law_ahead" "_law_ahead" (defArgs s_law_ahead) (defBody s_law_ahead) (defScope s_law_ahead) .none kV32 dc32 pm32 an32 cd32 ct32), sl32⟩)
    (c32 : PySem.W.codeIn K cd32 "_law_ahead" = true)
    (k32 : PySem.W.keepIn K (.ref f32) = true)
    (a33 : PySem.W.nsIn K mainGlobals "_law_walk" = some (some (.ref f33)))
    (l33 : K.lookup f33 = some ⟨oc33, od33, .func (PySem.W.fnOf "_law_walk" "_law_walk" (defArgs s_law_walk) (defBody s_law_walk) (defScope s_law_walk) .none kV33 dc33 pm33 an33 cd33 ct33), sl33⟩)
    (c33 : PySem.W.codeIn K cd33 "_law_walk" = true)
    (k33 : PySem.W.keepIn K (.ref f33) = true)
    (a34 : PySem.W.nsIn K mainGlobals "_law_rank" = some (some (.ref f34)))
    (l34 : K.lookup f34 = some ⟨oc34, od34, .func (PySem.W.fnOf "_law_rank" "_law_rank" (defArgs s_law_rank) (defBody s_law_rank) (defScope s_law_rank) .none kV34 dc34 pm34 an34 cd34 ct34), sl34⟩)
    (c34 : PySem.W.codeIn K cd34 "_law_rank" = true)
    (k34 : PySem.W.keepIn K (.ref f34) = true)
    (a35 : PySem.W.nsIn K mainGlobals "_law_are_raised" = some (some (.ref f35)))
    (l35 : K.lookup f35 = some ⟨oc35, od35, .func (PySem.W.fnOf "_law_are_raised" "_law_are_raised" (defArgs s_law_are_raised) (defBody s_law_are_raised) (defScope s_law_are_raised) .none kV35 dc35 pm35 an35 cd35 ct35), sl35⟩)
    (c35 : PySem.W.codeIn K cd35 "_law_are_raised" = true)
    (k35 : PySem.W.keepIn K (.ref f35) = true)
    (a36 : PySem.W.nsIn K mainGlobals "_law_listing" = some (some (.ref f36)))
    (l36 : K.lookup f36 = some ⟨oc36, od36, .func (PySem.W.fnOf "_law_listing" "_law_listing" (defArgs s_law_listing) (defBody s_law_listing) (defScope s_law_listing) .none kV36 dc36 pm36 an36 cd36 ct36), sl36⟩)
    (c36 : PySem.W.codeIn K cd36 "_law_listing" = true)
    (k36 : PySem.W.keepIn K (.ref f36) = true)
    (a37 : PySem.W.nsIn K mainGlobals "_law_told" = some (some (.ref f37)))
    (l37 : K.lookup f37 = some ⟨oc37, od37, .func (PySem.W.fnOf "_law_told" "_law_told" (defArgs s_law_told) (defBody s_law_told) (defScope s_law_told) .none kV37 dc37 pm37 an37 cd37 ct37), sl37⟩)
    (c37 : PySem.W.codeIn K cd37 "_law_told" = true)
    (k37 : PySem.W.keepIn K (.ref f37) = true)
    (a38 : PySem.W.nsIn K mainGlobals "_law_right" = some (some (.ref f38)))
    (l38 : K.lookup f38 = some ⟨oc38, od38, .func (PySem.W.fnOf "_law_right" "_law_right" (defArgs s_law_right) (defBody s_law_right) (defScope s_law_right) .none kV38 dc38 pm38 an38 cd38 ct38), sl38⟩)
    (c38 : PySem.W.codeIn K cd38 "_law_right" = true)
    (k38 : PySem.W.keepIn K (.ref f38) = true)
    (a39 : PySem.W.nsIn K mainGlobals "_law_wires" = some (some (.ref f39)))
    (l39 : K.lookup f39 = some ⟨oc39, od39, .func (PySem.W.fnOf "_law_wires" "_law_wires" (defArgs s_law_wires) (defBody s_law_wires) (defScope s_law_wires) .none kV39 dc39 pm39 an39 cd39 ct39), sl39⟩)
    (c39 : PySem.W.codeIn K cd39 "_law_wires" = true)
    (k39 : PySem.W.keepIn K (.ref f39) = true)
    (a40 : PySem.W.nsIn K mainGlobals "_law_sizes" = some (some (.ref f40)))
    (l40 : K.lookup f40 = some ⟨oc40, od40, .func (PySem.W.fnOf "_law_sizes" "_law_sizes" (defArgs s_law_sizes) (defBody s_law_sizes) (defScope s_law_sizes) .none kV40 dc40 pm40 an40 cd40 ct40), sl40⟩)
    (c40 : PySem.W.codeIn K cd40 "_law_sizes" = true)
    (k40 : PySem.W.keepIn K (.ref f40) = true)
    (a41 : PySem.W.nsIn K mainGlobals "_law_drawn" = some (some (.ref f41)))
    (l41 : K.lookup f41 = some ⟨oc41, od41, .func (PySem.W.fnOf "_law_drawn" "_law_drawn" (defArgs s_law_drawn) (defBody s_law_drawn) (defScope s_law_drawn) .none kV41 dc41 pm41 an41 cd41 ct41), sl41⟩)
    (c41 : PySem.W.codeIn K cd41 "_law_drawn" = true)
    (k41 : PySem.W.keepIn K (.ref f41) = true)
    (a42 : PySem.W.nsIn K mainGlobals "_law_asked" = some (some (.ref f42)))
    (l42 : K.lookup f42 = some ⟨oc42, od42, .func (PySem.W.fnOf "_law_asked" "_law_asked" (defArgs s_law_asked) (defBody s_law_asked) (defScope s_law_asked) .none kV42 dc42 pm42 an42 cd42 ct42), sl42⟩)
    (c42 : PySem.W.codeIn K cd42 "_law_asked" = true)
    (k42 : PySem.W.keepIn K (.ref f42) = true)
    (a43 : PySem.W.nsIn K mainGlobals "_law_whole" = some (some (.ref f43)))
    (l43 : K.lookup f43 = some ⟨oc43, od43, .func (PySem.W.fnOf "_law_whole" "_law_whole" (defArgs s_law_whole) (defBody s_law_whole) (defScope s_law_whole) .none kV43 dc43 pm43 an43 cd43 ct43), sl43⟩)
    (c43 : PySem.W.codeIn K cd43 "_law_whole" = true)
    (k43 : PySem.W.keepIn K (.ref f43) = true)
    (a44 : PySem.W.nsIn K mainGlobals "law" = some (some (.ref f44)))
    (l44 : K.lookup f44 = some ⟨oc44, od44, .func (PySem.W.fnOf "law" "law" (defArgs s_law) (defBody s_law) (defScope s_law) .none kV44 dc44 pm44 an44 cd44 ct44), sl44⟩)
    (c44 : PySem.W.codeIn K cd44 "law" = true)
    (k44 : PySem.W.keepIn K (.ref f44) = true)
    (z_int : PySem.W.nsIn K mainGlobals "int" = some none)
    (z_bool : PySem.W.nsIn K mainGlobals "bool" = some none)
    (z_str : PySem.W.nsIn K mainGlobals "str" = some none)
    (z_list : PySem.W.nsIn K mainGlobals "list" = some none)
    (z_tuple : PySem.W.nsIn K mainGlobals "tuple" = some none)
    (z_len : PySem.W.nsIn K mainGlobals "len" = some none)
    (z_sum : PySem.W.nsIn K mainGlobals "sum" = some none)
    (z_abs : PySem.W.nsIn K mainGlobals "abs" = some none)
    (z_all : PySem.W.nsIn K mainGlobals "all" = some none)
    (z_range : PySem.W.nsIn K mainGlobals "range" = some none)
    (z_isinstance : PySem.W.nsIn K mainGlobals "isinstance" = some none)
    (z_enumerate : PySem.W.nsIn K mainGlobals "enumerate" = some none)
    (z_max : PySem.W.nsIn K mainGlobals "max" = some none)
    (z_min : PySem.W.nsIn K mainGlobals "min" = some none)
    (z_sorted : PySem.W.nsIn K mainGlobals "sorted" = some none)
    (c_MOST_KINDS : PySem.W.nsIn K mainGlobals "MOST_KINDS" = some (some (.int 16 t_MOST_KINDS)))
    (c_LAST_KIND : PySem.W.nsIn K mainGlobals "LAST_KIND" = some (some (.int 64 t_LAST_KIND)))
    (c_ON_WIRES : PySem.W.nsIn K mainGlobals "ON_WIRES" = some (some (.int 1 t_ON_WIRES)))
    (c_comb : PySem.W.nsIn K mainGlobals "comb" = some (some (.builtin "math.comb")))
    (aCT : PySem.W.nsIn K mainGlobals "TalkError" = some (some (.ref CT)))
    (aCInvalidNumber : PySem.W.nsIn K mainGlobals "InvalidNumber" = some (some (.ref CInvalidNumber)))
    (xLInvalidNumber : K.lookup CInvalidNumber = some (excClassObj nmInvalidNumber qInvalidNumber CInvalidNumber NInvalidNumber bsInvalidNumber [.ref CT, .type "ValueError", .type "Exception", .type "BaseException", .type "object"] true snInvalidNumber subInvalidNumber abInvalidNumber colInvalidNumber ddInvalidNumber m0InvalidNumber m1InvalidNumber m2InvalidNumber m3InvalidNumber m5InvalidNumber "ValueError.__new__"))
    (saInvalidNumber : PySem.W.findIn K (.ref CInvalidNumber) "__setattr__" = some (some (.builtin "object.__setattr__")))
    (gaInvalidNumber : PySem.W.findIn K (.ref CInvalidNumber) "__getattribute__" = some (some (.builtin "BaseException.__getattribute__")))
    (ggInvalidNumber : PySem.W.findIn K (.ref CInvalidNumber) "__getattr__" = some none)
    (nbInvalidNumber : PySem.W.findIn K (.ref CInvalidNumber) "given" = some none)
    (iCInvalidNumber : PySem.W.findIn K (.ref CInvalidNumber) "__init__" = some (some (.ref fIInvalidNumber)))
    (tIInvalidNumber : PySem.W.typeIn K (.ref fIInvalidNumber) = some (.type "function"))
    (lIInvalidNumber : K.lookup fIInvalidNumber = some ⟨ocInvalidNumber, odInvalidNumber, .func (PySem.W.fnOf "__init__" "InvalidNumber.__init__" (defArgs s_init_InvalidNumber) (defBody s_init_InvalidNumber) (defScope s_init_InvalidNumber) .none kVInvalidNumber dcInvalidNumber pmInvalidNumber anInvalidNumber cdInvalidNumber ctInvalidNumber), slInvalidNumber⟩)
    (cIInvalidNumber : PySem.W.codeIn K cdInvalidNumber "InvalidNumber.__init__" = true)
    (kIInvalidNumber : PySem.W.keepIn K (.ref fIInvalidNumber) = true)
    (kCInvalidNumber : PySem.W.keepIn K (.ref CInvalidNumber) = true)
    (eCInvalidNumber : PySem.W.subIn K (.ref CInvalidNumber) (.type "BaseException") = some true)
    (tCInvalidNumber : PySem.W.typeIn K (.ref CInvalidNumber) = some (.type "type"))
    (hCInvalidNumber : PySem.W.hasDictIn K CInvalidNumber = true)
    (iSInvalidNumber : PySem.W.isClsIn K CInvalidNumber = true)
    (aCInvalidKinds : PySem.W.nsIn K mainGlobals "InvalidKinds" = some (some (.ref CInvalidKinds)))
    (xLInvalidKinds : K.lookup CInvalidKinds = some (excClassObj nmInvalidKinds qInvalidKinds CInvalidKinds NInvalidKinds bsInvalidKinds [.ref CT, .type "ValueError", .type "Exception", .type "BaseException", .type "object"] true snInvalidKinds subInvalidKinds abInvalidKinds colInvalidKinds ddInvalidKinds m0InvalidKinds m1InvalidKinds m2InvalidKinds m3InvalidKinds m5InvalidKinds "ValueError.__new__"))
    (saInvalidKinds : PySem.W.findIn K (.ref CInvalidKinds) "__setattr__" = some (some (.builtin "object.__setattr__")))
    (gaInvalidKinds : PySem.W.findIn K (.ref CInvalidKinds) "__getattribute__" = some (some (.builtin "BaseException.__getattribute__")))
    (ggInvalidKinds : PySem.W.findIn K (.ref CInvalidKinds) "__getattr__" = some none)
    (nbInvalidKinds : PySem.W.findIn K (.ref CInvalidKinds) "given" = some none)
    (iCInvalidKinds : PySem.W.findIn K (.ref CInvalidKinds) "__init__" = some (some (.ref fIInvalidKinds)))
    (tIInvalidKinds : PySem.W.typeIn K (.ref fIInvalidKinds) = some (.type "function"))
    (lIInvalidKinds : K.lookup fIInvalidKinds = some ⟨ocInvalidKinds, odInvalidKinds, .func (PySem.W.fnOf "__init__" "InvalidKinds.__init__" (defArgs s_init_InvalidKinds) (defBody s_init_InvalidKinds) (defScope s_init_InvalidKinds) .none kVInvalidKinds dcInvalidKinds pmInvalidKinds anInvalidKinds cdInvalidKinds ctInvalidKinds), slInvalidKinds⟩)
    (cIInvalidKinds : PySem.W.codeIn K cdInvalidKinds "InvalidKinds.__init__" = true)
    (kIInvalidKinds : PySem.W.keepIn K (.ref fIInvalidKinds) = true)
    (kCInvalidKinds : PySem.W.keepIn K (.ref CInvalidKinds) = true)
    (eCInvalidKinds : PySem.W.subIn K (.ref CInvalidKinds) (.type "BaseException") = some true)
    (tCInvalidKinds : PySem.W.typeIn K (.ref CInvalidKinds) = some (.type "type"))
    (hCInvalidKinds : PySem.W.hasDictIn K CInvalidKinds = true)
    (iSInvalidKinds : PySem.W.isClsIn K CInvalidKinds = true)
    (aCInvalidSizes : PySem.W.nsIn K mainGlobals "InvalidSizes" = some (some (.ref CInvalidSizes)))
    (xLInvalidSizes : K.lookup CInvalidSizes = some (excClassObj nmInvalidSizes qInvalidSizes CInvalidSizes NInvalidSizes bsInvalidSizes [.ref CT, .type "ValueError", .type "Exception", .type "BaseException", .type "object"] true snInvalidSizes subInvalidSizes abInvalidSizes colInvalidSizes ddInvalidSizes m0InvalidSizes m1InvalidSizes m2InvalidSizes m3InvalidSizes m5InvalidSizes "ValueError.__new__"))
    (saInvalidSizes : PySem.W.findIn K (.ref CInvalidSizes) "__setattr__" = some (some (.builtin "object.__setattr__")))
    (gaInvalidSizes : PySem.W.findIn K (.ref CInvalidSizes) "__getattribute__" = some (some (.builtin "BaseException.__getattribute__")))
    (ggInvalidSizes : PySem.W.findIn K (.ref CInvalidSizes) "__getattr__" = some none)
    (nbInvalidSizes : PySem.W.findIn K (.ref CInvalidSizes) "given" = some none)
    (iCInvalidSizes : PySem.W.findIn K (.ref CInvalidSizes) "__init__" = some (some (.ref fIInvalidSizes)))
    (tIInvalidSizes : PySem.W.typeIn K (.ref fIInvalidSizes) = some (.type "function"))
    (lIInvalidSizes : K.lookup fIInvalidSizes = some ⟨ocInvalidSizes, odInvalidSizes, .func (PySem.W.fnOf "__init__" "InvalidSizes.__init__" (defArgs s_init_InvalidSizes) (defBody s_init_InvalidSizes) (defScope s_init_InvalidSizes) .none kVInvalidSizes dcInvalidSizes pmInvalidSizes anInvalidSizes cdInvalidSizes ctInvalidSizes), slInvalidSizes⟩)
    (cIInvalidSizes : PySem.W.codeIn K cdInvalidSizes "InvalidSizes.__init__" = true)
    (kIInvalidSizes : PySem.W.keepIn K (.ref fIInvalidSizes) = true)
    (kCInvalidSizes : PySem.W.keepIn K (.ref CInvalidSizes) = true)
    (eCInvalidSizes : PySem.W.subIn K (.ref CInvalidSizes) (.type "BaseException") = some true)
    (tCInvalidSizes : PySem.W.typeIn K (.ref CInvalidSizes) = some (.type "type"))
    (hCInvalidSizes : PySem.W.hasDictIn K CInvalidSizes = true)
    (iSInvalidSizes : PySem.W.isClsIn K CInvalidSizes = true)
    (aCInvalidRank : PySem.W.nsIn K mainGlobals "InvalidRank" = some (some (.ref CInvalidRank)))
    (xLInvalidRank : K.lookup CInvalidRank = some (excClassObj nmInvalidRank qInvalidRank CInvalidRank NInvalidRank bsInvalidRank [.ref CT, .type "ValueError", .type "Exception", .type "BaseException", .type "object"] true snInvalidRank subInvalidRank abInvalidRank colInvalidRank ddInvalidRank m0InvalidRank m1InvalidRank m2InvalidRank m3InvalidRank m5InvalidRank "ValueError.__new__"))
    (saInvalidRank : PySem.W.findIn K (.ref CInvalidRank) "__setattr__" = some (some (.builtin "object.__setattr__")))
    (gaInvalidRank : PySem.W.findIn K (.ref CInvalidRank) "__getattribute__" = some (some (.builtin "BaseException.__getattribute__")))
    (ggInvalidRank : PySem.W.findIn K (.ref CInvalidRank) "__getattr__" = some none)
    (nbInvalidRank : PySem.W.findIn K (.ref CInvalidRank) "given" = some none)
    (iCInvalidRank : PySem.W.findIn K (.ref CInvalidRank) "__init__" = some (some (.ref fIInvalidRank)))
    (tIInvalidRank : PySem.W.typeIn K (.ref fIInvalidRank) = some (.type "function"))
    (lIInvalidRank : K.lookup fIInvalidRank = some ⟨ocInvalidRank, odInvalidRank, .func (PySem.W.fnOf "__init__" "InvalidRank.__init__" (defArgs s_init_InvalidRank) (defBody s_init_InvalidRank) (defScope s_init_InvalidRank) .none kVInvalidRank dcInvalidRank pmInvalidRank anInvalidRank cdInvalidRank ctInvalidRank), slInvalidRank⟩)
    (cIInvalidRank : PySem.W.codeIn K cdInvalidRank "InvalidRank.__init__" = true)
    (kIInvalidRank : PySem.W.keepIn K (.ref fIInvalidRank) = true)
    (kCInvalidRank : PySem.W.keepIn K (.ref CInvalidRank) = true)
    (eCInvalidRank : PySem.W.subIn K (.ref CInvalidRank) (.type "BaseException") = some true)
    (tCInvalidRank : PySem.W.typeIn K (.ref CInvalidRank) = some (.type "type"))
    (hCInvalidRank : PySem.W.hasDictIn K CInvalidRank = true)
    (iSInvalidRank : PySem.W.isClsIn K CInvalidRank = true)
    (aCInvalidRounds : PySem.W.nsIn K mainGlobals "InvalidRounds" = some (some (.ref CInvalidRounds)))
    (xLInvalidRounds : K.lookup CInvalidRounds = some (excClassObj nmInvalidRounds qInvalidRounds CInvalidRounds NInvalidRounds bsInvalidRounds [.ref CT, .type "ValueError", .type "Exception", .type "BaseException", .type "object"] true snInvalidRounds subInvalidRounds abInvalidRounds colInvalidRounds ddInvalidRounds m0InvalidRounds m1InvalidRounds m2InvalidRounds m3InvalidRounds m5InvalidRounds "ValueError.__new__"))
    (saInvalidRounds : PySem.W.findIn K (.ref CInvalidRounds) "__setattr__" = some (some (.builtin "object.__setattr__")))
    (gaInvalidRounds : PySem.W.findIn K (.ref CInvalidRounds) "__getattribute__" = some (some (.builtin "BaseException.__getattribute__")))
    (ggInvalidRounds : PySem.W.findIn K (.ref CInvalidRounds) "__getattr__" = some none)
    (nbInvalidRounds : PySem.W.findIn K (.ref CInvalidRounds) "given" = some none)
    (iCInvalidRounds : PySem.W.findIn K (.ref CInvalidRounds) "__init__" = some (some (.ref fIInvalidRounds)))
    (tIInvalidRounds : PySem.W.typeIn K (.ref fIInvalidRounds) = some (.type "function"))
    (lIInvalidRounds : K.lookup fIInvalidRounds = some ⟨ocInvalidRounds, odInvalidRounds, .func (PySem.W.fnOf "__init__" "InvalidRounds.__init__" (defArgs s_init_InvalidRounds) (defBody s_init_InvalidRounds) (defScope s_init_InvalidRounds) .none kVInvalidRounds dcInvalidRounds pmInvalidRounds anInvalidRounds cdInvalidRounds ctInvalidRounds), slInvalidRounds⟩)
    (cIInvalidRounds : PySem.W.codeIn K cdInvalidRounds "InvalidRounds.__init__" = true)
    (kIInvalidRounds : PySem.W.keepIn K (.ref fIInvalidRounds) = true)
    (kCInvalidRounds : PySem.W.keepIn K (.ref CInvalidRounds) = true)
    (eCInvalidRounds : PySem.W.subIn K (.ref CInvalidRounds) (.type "BaseException") = some true)
    (tCInvalidRounds : PySem.W.typeIn K (.ref CInvalidRounds) = some (.type "type"))
    (hCInvalidRounds : PySem.W.hasDictIn K CInvalidRounds = true)
    (iSInvalidRounds : PySem.W.isClsIn K CInvalidRounds = true)
    (eRR : PySem.W.subIn K (.ref CInvalidRank) (.ref CInvalidRank) = some true) :
    ∃ fd : FuncData, (∀ (s : Shared) (v : Value), BindsTo s fd ⟨[v], []⟩ [("script", v)]) ∧ ∀ base : Heap, K.In base → base.Ns mainGlobals mg → FnOk l.prog w K mg base CX0 11 fa fd ["script"] (spLaw K) := by
  have e := hfa.symm.trans (PySem.W.mg_of X G a44)
  cases e
  let T : TK K mg := {
    is_integer := mkDef X G a1 l1 c1 k1 (fun _ _ _ _ _ _ us hl => match us, hl with | [_], _ => rfl)
    is_between := mkDef X G a2 l2 c2 k2 (fun _ _ _ _ _ _ us hl => match us, hl with | [_, _, _], _ => rfl)
    is_from := mkDef X G a3 l3 c3 k3 (fun _ _ _ _ _ _ us hl => match us, hl with | [_, _], _ => rfl)
    is_list := mkDef X G a4 l4 c4 k4 (fun _ _ _ _ _ _ us hl => match us, hl with | [_], _ => rfl)
    are_from := mkDef X G a5 l5 c5 k5 (fun _ _ _ _ _ _ us hl => match us, hl with | [_, _], _ => rfl)
    many_raised := mkDef X G a6 l6 c6 k6 (fun _ _ _ _ _ _ us hl => match us, hl with | [_, _], _ => rfl)
    raised_of := mkDef X G a7 l7 c7 k7 (fun _ _ _ _ _ _ us hl => match us, hl with | [_, _, _], _ => rfl)
    raised_rank := mkDef X G a8 l8 c8 k8 (fun _ _ _ _ _ _ us hl => match us, hl with | [_, _], _ => rfl)
    answers_of := mkDef X G a9 l9 c9 k9 (fun _ _ _ _ _ _ us hl => match us, hl with | [_, _], _ => rfl)
    many := mkDef X G a10 l10 c10 k10 (fun _ _ _ _ _ _ us hl => match us, hl with | [_, _, _], _ => rfl)
    rounds_at := mkDef X G a11 l11 c11 k11 (fun _ _ _ _ _ _ us hl => match us, hl with | [_, _, _, _], _ => rfl)
    rank_at := mkDef X G a12 l12 c12 k12 (fun _ _ _ _ _ _ us hl => match us, hl with | [_, _, _], _ => rfl)
    many_chosen := mkDef X G a13 l13 c13 k13 (fun _ _ _ _ _ _ us hl => match us, hl with | [_, _], _ => rfl)
    behind := mkDef X G a14 l14 c14 k14 (fun _ _ _ _ _ _ us hl => match us, hl with | [_, _, _], _ => rfl)
    chosen_at := mkDef X G a15 l15 c15 k15 (fun _ _ _ _ _ _ us hl => match us, hl with | [_, _, _], _ => rfl)
    chosen_rank := mkDef X G a16 l16 c16 k16 (fun _ _ _ _ _ _ us hl => match us, hl with | [_, _], _ => rfl)
    check_count := mkDef X G a17 l17 c17 k17 (fun _ _ _ _ _ _ us hl => match us, hl with | [_], _ => rfl)
    check_kinds := mkDef X G a18 l18 c18 k18 (fun _ _ _ _ _ _ us hl => match us, hl with | [_], _ => rfl)
    check_sizes := mkDef X G a19 l19 c19 k19 (fun _ _ _ _ _ _ us hl => match us, hl with | [_], _ => rfl)
    check_rank := mkDef X G a20 l20 c20 k20 (fun _ _ _ _ _ _ us hl => match us, hl with | [_, _, _, _], _ => rfl)
    check_rounds := mkDef X G a21 l21 c21 k21 (fun _ _ _ _ _ _ us hl => match us, hl with | [_, _, _], _ => rfl)
    are_rounds := mkDef X G a22 l22 c22 k22 (fun _ _ _ _ _ _ us hl => match us, hl with | [_, _, _], _ => rfl)
    is_chosen := mkDef X G a23 l23 c23 k23 (fun _ _ _ _ _ _ us hl => match us, hl with | [_, _], _ => rfl)
    is_ascending := mkDef X G a24 l24 c24 k24 (fun _ _ _ _ _ _ us hl => match us, hl with | [_], _ => rfl)
    are_between := mkDef X G a25 l25 c25 k25 (fun _ _ _ _ _ _ us hl => match us, hl with | [_, _, _], _ => rfl)
    law_cell := mkDef X G a26 l26 c26 k26 (fun _ _ _ _ _ _ us hl => match us, hl with | [_, _], _ => rfl)
    law_box := mkDef X G a27 l27 c27 k27 (fun _ _ _ _ _ _ us hl => match us, hl with | [_], _ => rfl)
    law_take := mkDef X G a28 l28 c28 k28 (fun _ _ _ _ _ _ us hl => match us, hl with | [_, _], _ => rfl)
    law_same := mkDef X G a29 l29 c29 k29 (fun _ _ _ _ _ _ us hl => match us, hl with | [_, _], _ => rfl)
    law_choose := mkDef X G a30 l30 c30 k30 (fun _ _ _ _ _ _ us hl => match us, hl with | [_, _], _ => rfl)
    law_many := mkDef X G a31 l31 c31 k31 (fun _ _ _ _ _ _ us hl => match us, hl with | [_, _], _ => rfl)
    law_ahead := mkDef X G a32 l32 c32 k32 (fun _ _ _ _ _ _ us hl => match us, hl with | [_, _], _ => rfl)
    law_walk := mkDef X G a33 l33 c33 k33 (fun _ _ _ _ _ _ us hl => match us, hl with | [_, _], _ => rfl)
    law_rank := mkDef X G a34 l34 c34 k34 (fun _ _ _ _ _ _ us hl => match us, hl with | [_, _], _ => rfl)
    law_are_raised := mkDef X G a35 l35 c35 k35 (fun _ _ _ _ _ _ us hl => match us, hl with | [_, _, _], _ => rfl)
    law_listing := mkDef X G a36 l36 c36 k36 (fun _ _ _ _ _ _ us hl => match us, hl with | [_, _], _ => rfl)
    law_told := mkDef X G a37 l37 c37 k37 (fun _ _ _ _ _ _ us hl => match us, hl with | [_, _, _], _ => rfl)
    law_right := mkDef X G a38 l38 c38 k38 (fun _ _ _ _ _ _ us hl => match us, hl with | [_, _, _], _ => rfl)
    law_wires := mkDef X G a39 l39 c39 k39 (fun _ _ _ _ _ _ us hl => match us, hl with | [_, _], _ => rfl)
    law_sizes := mkDef X G a40 l40 c40 k40 (fun _ _ _ _ _ _ us hl => match us, hl with | [_, _], _ => rfl)
    law_drawn := mkDef X G a41 l41 c41 k41 (fun _ _ _ _ _ _ us hl => match us, hl with | [_, _, _], _ => rfl)
    law_asked := mkDef X G a42 l42 c42 k42 (fun _ _ _ _ _ _ us hl => match us, hl with | [_, _], _ => rfl)
    law_whole := mkDef X G a43 l43 c43 k43 (fun _ _ _ _ _ _ us hl => match us, hl with | [_, _, _], _ => rfl)
    law := mkDef X G a44 l44 c44 k44 (fun _ _ _ _ _ _ us hl => match us, hl with | [_], _ => rfl)
    z_int := PySem.W.mg_none_of X G z_int
    z_bool := PySem.W.mg_none_of X G z_bool
    z_str := PySem.W.mg_none_of X G z_str
    z_list := PySem.W.mg_none_of X G z_list
    z_tuple := PySem.W.mg_none_of X G z_tuple
    z_len := PySem.W.mg_none_of X G z_len
    z_sum := PySem.W.mg_none_of X G z_sum
    z_abs := PySem.W.mg_none_of X G z_abs
    z_all := PySem.W.mg_none_of X G z_all
    z_range := PySem.W.mg_none_of X G z_range
    z_isinstance := PySem.W.mg_none_of X G z_isinstance
    z_enumerate := PySem.W.mg_none_of X G z_enumerate
    z_max := PySem.W.mg_none_of X G z_max
    z_min := PySem.W.mg_none_of X G z_min
    z_sorted := PySem.W.mg_none_of X G z_sorted
    t_MOST_KINDS := t_MOST_KINDS
    c_MOST_KINDS := PySem.W.mg_of X G c_MOST_KINDS
    t_LAST_KIND := t_LAST_KIND
    c_LAST_KIND := PySem.W.mg_of X G c_LAST_KIND
    t_ON_WIRES := t_ON_WIRES
    c_ON_WIRES := PySem.W.mg_of X G c_ON_WIRES
    c_comb := PySem.W.mg_of X G c_comb
    TalkError_C := CT
    TalkError_gC := PySem.W.mg_of X G aCT
    InvalidNumber := ⟨CInvalidNumber, fIInvalidNumber, _, fun_mk (st := s_init_InvalidNumber) lIInvalidNumber cIInvalidNumber kIInvalidNumber, (fun_mk (st := s_init_InvalidNumber) lIInvalidNumber cIInvalidNumber kIInvalidNumber).binds (ps := ["self", "given"]) fun _ _ _ _ _ _ us hl => match us, hl with | [_, _], _ => rfl, ⟨⟨_, _, _, _, _, _, _, _, _, _, _, _, _, _, _, xLInvalidNumber, rfl⟩, saInvalidNumber, eCInvalidNumber, tCInvalidNumber, kCInvalidNumber⟩, iCInvalidNumber, tIInvalidNumber, PySem.W.mg_of X G aCInvalidNumber, nbInvalidNumber, ⟨gaInvalidNumber, ggInvalidNumber, eCInvalidNumber, hCInvalidNumber⟩⟩
    InvalidKinds := ⟨CInvalidKinds, fIInvalidKinds, _, fun_mk (st := s_init_InvalidKinds) lIInvalidKinds cIInvalidKinds kIInvalidKinds, (fun_mk (st := s_init_InvalidKinds) lIInvalidKinds cIInvalidKinds kIInvalidKinds).binds (ps := ["self", "given"]) fun _ _ _ _ _ _ us hl => match us, hl with | [_, _], _ => rfl, ⟨⟨_, _, _, _, _, _, _, _, _, _, _, _, _, _, _, xLInvalidKinds, rfl⟩, saInvalidKinds, eCInvalidKinds, tCInvalidKinds, kCInvalidKinds⟩, iCInvalidKinds, tIInvalidKinds, PySem.W.mg_of X G aCInvalidKinds, nbInvalidKinds, ⟨gaInvalidKinds, ggInvalidKinds, eCInvalidKinds, hCInvalidKinds⟩⟩
    InvalidSizes := ⟨CInvalidSizes, fIInvalidSizes, _, fun_mk (st := s_init_InvalidSizes) lIInvalidSizes cIInvalidSizes kIInvalidSizes, (fun_mk (st := s_init_InvalidSizes) lIInvalidSizes cIInvalidSizes kIInvalidSizes).binds (ps := ["self", "given"]) fun _ _ _ _ _ _ us hl => match us, hl with | [_, _], _ => rfl, ⟨⟨_, _, _, _, _, _, _, _, _, _, _, _, _, _, _, xLInvalidSizes, rfl⟩, saInvalidSizes, eCInvalidSizes, tCInvalidSizes, kCInvalidSizes⟩, iCInvalidSizes, tIInvalidSizes, PySem.W.mg_of X G aCInvalidSizes, nbInvalidSizes, ⟨gaInvalidSizes, ggInvalidSizes, eCInvalidSizes, hCInvalidSizes⟩⟩
    InvalidRank := ⟨CInvalidRank, fIInvalidRank, _, fun_mk (st := s_init_InvalidRank) lIInvalidRank cIInvalidRank kIInvalidRank, (fun_mk (st := s_init_InvalidRank) lIInvalidRank cIInvalidRank kIInvalidRank).binds (ps := ["self", "given"]) fun _ _ _ _ _ _ us hl => match us, hl with | [_, _], _ => rfl, ⟨⟨_, _, _, _, _, _, _, _, _, _, _, _, _, _, _, xLInvalidRank, rfl⟩, saInvalidRank, eCInvalidRank, tCInvalidRank, kCInvalidRank⟩, iCInvalidRank, tIInvalidRank, PySem.W.mg_of X G aCInvalidRank, nbInvalidRank, ⟨gaInvalidRank, ggInvalidRank, eCInvalidRank, hCInvalidRank⟩⟩
    InvalidRounds := ⟨CInvalidRounds, fIInvalidRounds, _, fun_mk (st := s_init_InvalidRounds) lIInvalidRounds cIInvalidRounds kIInvalidRounds, (fun_mk (st := s_init_InvalidRounds) lIInvalidRounds cIInvalidRounds kIInvalidRounds).binds (ps := ["self", "given"]) fun _ _ _ _ _ _ us hl => match us, hl with | [_, _], _ => rfl, ⟨⟨_, _, _, _, _, _, _, _, _, _, _, _, _, _, _, xLInvalidRounds, rfl⟩, saInvalidRounds, eCInvalidRounds, tCInvalidRounds, kCInvalidRounds⟩, iCInvalidRounds, tIInvalidRounds, PySem.W.mg_of X G aCInvalidRounds, nbInvalidRounds, ⟨gaInvalidRounds, ggInvalidRounds, eCInvalidRounds, hCInvalidRounds⟩⟩
    eRR := exm_of eCInvalidRank iSInvalidRank tCInvalidRank eRR
    kb_many_raised_sizes_count := kb21 (fun_mk (st := s_many_raised) l6 c6 k6) fun _ _ _ _ _ _ _ _ => rfl
    kb_raised_rank_wires_rounds := kb21 (fun_mk (st := s_raised_rank) l8 c8 k8) fun _ _ _ _ _ _ _ _ => rfl
    kb_answers_of_wires_rounds := kb21 (fun_mk (st := s_answers_of) l9 c9 k9) fun _ _ _ _ _ _ _ _ => rfl
    kb_raised_of_wires_sizes_rank := kb312 (fun_mk (st := s_raised_of) l7 c7 k7) fun _ _ _ _ _ _ _ _ _ => rfl }
  exact ⟨PySem.W.fnOf "law" "law" (defArgs s_law) (defBody s_law) (defScope s_law) .none kV44 dc44 pm44 an44 cd44 ct44, fun s v => .of_eq rfl, fun base _ _ => ok_law T⟩
theorem walk {l : PySem.W.OpenLaw} {q : Program} {loose : List Str} {XP : (Str → Option Value) → Heap → Prop} {YP : World → Heap → Prop} {d : DefRec} {K : Params → PySem.W.Frag} (hn : l.most = some 63) (hdf : d.params.defaults = [])
    (hY : ∀ (w : World) (h : Heap), YP w h → (K w.params).In h)
    (F : ∀ (w : World) (mg : Str → Option Value) (fa : Addr) (h : Heap), (K w.params).In h → h.Ns mainGlobals mg → mg d.name = some (.ref fa) →
      ∃ fd : FuncData, (∀ (s : Shared) (u : Value), BindsTo s fd ⟨[u], []⟩ [("script", u)]) ∧ ∀ base : Heap, (K w.params).In base → base.Ns mainGlobals mg → FnOk l.prog w (K w.params) mg base CX0 11 fa fd ["script"] (spLaw (K w.params))) :
    PySem.W.WalkO q loose XP YP l.row.toRowW d [] (fun f vs => PySem.call f vs) :=
  L2.walk_of (n := 63) (k := 11) (x := "script") (CX := fun _ => CX0) (sp := fun w => spLaw (K w.params)) hn (by decide) hdf ⟨rfl, by decide, by decide⟩ hY F
    (fun _ _ a ns hl _ hS => ⟨a, ns, rfl, hS, hl, fun _ => rfl⟩) fun _ _ _ _ _ z => z
end L2.U
open PySem PySem.W PyProof.Rows
set_option maxRecDepth 100000 in
set_option maxHeartbeats 0 in
theorem PySem.Challenge.cw_upforgood_k04_raised_rounds_and_answers_holds : PySem.Challenge.rw_upforgood_k04_raised_rounds_and_answers.Holds := by
  w_on; o_law; k_head; (case hw => w_witness2)
  k_fill
  refine L2.U.walk (l := PySem.Challenge.rw_upforgood_k04_raised_rounds_and_answers) rfl rfl (fun w h Y => PySem.W.kIn_of Y) ?F
  case F =>
    intro w mg fa h KX G hmg
    refine' L2.U.all_mk KX G hmg ?a1 ?l1 ?c1 ?k1 ?a2 ?l2 ?c2 ?k2 ?a3 ?l3 ?c3 ?k3 ?a4 ?l4 ?c4 ?k4 ?a5 ?l5 ?c5 ?k5 ?a6 ?l6 ?c6 ?k6 ?a7 ?l7 ?c7 ?k7 ?a8 ?l8 ?c8 ?k8 ?a9 ?l9 ?c9 ?k9 ?a10 ?l10 ?c10 ?k10 ?a11 ?l11 ?c11 ?k11 ?a12 ?l12 ?c12 ?k12 ?a13 ?l13 ?c13 ?k13 ?a14 ?l14 ?c14 ?k14 ?a15 ?l15 ?c15 ?k15 ?a16 ?l16 ?c16 ?k16 ?a17 ?l17 ?c17 ?k17 ?a18 ?l18 ?c18 ?k18 ?a19 ?l19 ?c19 ?k19 ?a20 ?l20 ?c20 ?k20 ?a21 ?l21 ?c21 ?k21 ?a22 ?l22 ?c22 ?k22 ?a23 ?l23 ?c23 ?k23 ?a24 ?l24 ?c24 ?k24 ?a25 ?l25 ?c25 ?k25 ?a26 ?l26 ?c26 ?k26 ?a27 ?l27 ?c27 ?k27 ?a28 ?l28 ?c28 ?k28 ?a29 ?l29 ?c29 ?k29 ?a30 ?l30 ?c30 ?k30 ?a31 ?l31 ?c31 ?k31 ?a32 ?l32 ?c32 ?k32 ?a33 ?l33 ?c33 ?k33 ?a34 ?l34 ?c34 ?k34 ?a35 ?l35 ?c35 ?k35 ?a36 ?l36 ?c36 ?k36 ?a37 ?l37 ?c37 ?k37 ?a38 ?l38 ?c38 ?k38 ?a39 ?l39 ?c39 ?k39 ?a40 ?l40 ?c40 ?k40 ?a41 ?l41 ?c41 ?k41 ?a42 ?l42 ?c42 ?k42 ?a43 ?l43 ?c43 ?k43 ?a44 ?l44 ?c44 ?k44 ?z_int ?z_bool ?z_str ?z_list ?z_tuple ?z_len ?z_sum ?z_abs ?z_all ?z_range ?z_isinstance ?z_enumerate ?z_max ?z_min ?z_sorted ?c_MOST_KINDS ?c_LAST_KIND ?c_ON_WIRES ?c_comb ?aCT ?aCInvalidNumber ?xLInvalidNumber ?saInvalidNumber ?gaInvalidNumber ?ggInvalidNumber ?nbInvalidNumber ?iCInvalidNumber ?tIInvalidNumber ?lIInvalidNumber ?cIInvalidNumber ?kIInvalidNumber ?kCInvalidNumber ?eCInvalidNumber ?tCInvalidNumber ?hCInvalidNumber ?iSInvalidNumber ?aCInvalidKinds ?xLInvalidKinds ?saInvalidKinds ?gaInvalidKinds ?ggInvalidKinds ?nbInvalidKinds ?iCInvalidKinds ?tIInvalidKinds ?lIInvalidKinds ?cIInvalidKinds ?kIInvalidKinds ?kCInvalidKinds ?eCInvalidKinds ?tCInvalidKinds ?hCInvalidKinds ?iSInvalidKinds ?aCInvalidSizes ?xLInvalidSizes ?saInvalidSizes ?gaInvalidSizes ?ggInvalidSizes ?nbInvalidSizes ?iCInvalidSizes ?tIInvalidSizes ?lIInvalidSizes ?cIInvalidSizes ?kIInvalidSizes ?kCInvalidSizes ?eCInvalidSizes ?tCInvalidSizes ?hCInvalidSizes ?iSInvalidSizes ?aCInvalidRank ?xLInvalidRank ?saInvalidRank ?gaInvalidRank ?ggInvalidRank ?nbInvalidRank ?iCInvalidRank ?tIInvalidRank ?lIInvalidRank ?cIInvalidRank ?kIInvalidRank ?kCInvalidRank ?eCInvalidRank ?tCInvalidRank ?hCInvalidRank ?iSInvalidRank ?aCInvalidRounds ?xLInvalidRounds ?saInvalidRounds ?gaInvalidRounds ?ggInvalidRounds ?nbInvalidRounds ?iCInvalidRounds ?tIInvalidRounds ?lIInvalidRounds ?cIInvalidRounds ?kIInvalidRounds ?kCInvalidRounds ?eCInvalidRounds ?tCInvalidRounds ?hCInvalidRounds ?iSInvalidRounds ?eRR
    (case a1 => k_is)
    (case l1 => k_is)
    (case c1 => k_is)
    (case k1 => k_is)
    (case a2 => k_is)
    (case l2 => k_is)
    (case c2 => k_is)
    (case k2 => k_is)
    (case a3 => k_is)
    (case l3 => k_is)
    (case c3 => k_is)
    (case k3 => k_is)
    (case a4 => k_is)
    (case l4 => k_is)
    (case c4 => k_is)
    (case k4 => k_is)
    (case a5 => k_is)
    (case l5 => k_is)
    (case c5 => k_is)
    (case k5 => k_is)
    (case a6 => k_is)
    (case l6 => k_is)
    (case c6 => k_is)
    (case k6 => k_is)
    (case a7 => k_is)
    (case l7 => k_is)
    (case c7 => k_is)
    (case k7 => k_is)
    (case a8 => k_is)
    (case l8 => k_is)
    (case c8 => k_is)
    (case k8 => k_is)
    (case a9 => k_is)
    (case l9 => k_is)
    (case c9 => k_is)
    (case k9 => k_is)
    (case a10 => k_is)
    (case l10 => k_is)
    (case c10 => k_is)
    (case k10 => k_is)
    (case a11 => k_is)
    (case l11 => k_is)
    (case c11 => k_is)
    (case k11 => k_is)
    (case a12 => k_is)
    (case l12 => k_is)
    (case c12 => k_is)
    (case k12 => k_is)
    (case a13 => k_is)
    (case l13 => k_is)
    (case c13 => k_is)
    (case k13 => k_is)
    (case a14 => k_is)
    (case l14 => k_is)
    (case c14 => k_is)
    (case k14 => k_is)
    (case a15 => k_is)
    (case l15 => k_is)
    (case c15 => k_is)
    (case k15 => k_is)
    (case a16 => k_is)
    (case l16 => k_is)
    (case c16 => k_is)
    (case k16 => k_is)
    (case a17 => k_is)
    (case l17 => k_is)
    (case c17 => k_is)
    (case k17 => k_is)
    (case a18 => k_is)
    (case l18 => k_is)
    (case c18 => k_is)
    (case k18 => k_is)
    (case a19 => k_is)
    (case l19 => k_is)
    (case c19 => k_is)
    (case k19 => k_is)
    (case a20 => k_is)
    (case l20 => k_is)
    (case c20 => k_is)
    (case k20 => k_is)
    (case a21 => k_is)
    (case l21 => k_is)
    (case c21 => k_is)
    (case k21 => k_is)
    (case a22 => k_is)
    (case l22 => k_is)
    (case c22 => k_is)
    (case k22 => k_is)
    (case a23 => k_is)
    (case l23 => k_is)
    (case c23 => k_is)
    (case k23 => k_is)
    (case a24 => k_is)
    (case l24 => k_is)
    (case c24 => k_is)
    (case k24 => k_is)
    (case a25 => k_is)
    (case l25 => k_is)
    (case c25 => k_is)
    (case k25 => k_is)
    (case a26 => k_is)
    (case l26 => k_is)
    (case c26 => k_is)
    (case k26 => k_is)
    (case a27 => k_is)
    (case l27 => k_is)
    (case c27 => k_is)
    (case k27 => k_is)
    (case a28 => k_is)
    (case l28 => k_is)
    (case c28 => k_is)
    (case k28 => k_is)
    (case a29 => k_is)
    (case l29 => k_is)
    (case c29 => k_is)
    (case k29 => k_is)
    (case a30 => k_is)
    (case l30 => k_is)
    (case c30 => k_is)
    (case k30 => k_is)
    (case a31 => k_is)
    (case l31 => k_is)
    (case c31 => k_is)
    (case k31 => k_is)
    (case a32 => k_is)
    (case l32 => k_is)
    (case c32 => k_is)
    (case k32 => k_is)
    (case a33 => k_is)
    (case l33 => k_is)
    (case c33 => k_is)
    (case k33 => k_is)
    (case a34 => k_is)
    (case l34 => k_is)
    (case c34 => k_is)
    (case k34 => k_is)
    (case a35 => k_is)
    (case l35 => k_is)
    (case c35 => k_is)
    (case k35 => k_is)
    (case a36 => k_is)
    (case l36 => k_is)
    (case c36 => k_is)
    (case k36 => k_is)
    (case a37 => k_is)
    (case l37 => k_is)
    (case c37 => k_is)
    (case k37 => k_is)
    (case a38 => k_is)
    (case l38 => k_is)
    (case c38 => k_is)
    (case k38 => k_is)
    (case a39 => k_is)
    (case l39 => k_is)
    (case c39 => k_is)
    (case k39 => k_is)
    (case a40 => k_is)
    (case l40 => k_is)
    (case c40 => k_is)
    (case k40 => k_is)
    (case a41 => k_is)
    (case l41 => k_is)
    (case c41 => k_is)
    (case k41 => k_is)
    (case a42 => k_is)
    (case l42 => k_is)
    (case c42 => k_is)
    (case k42 => k_is)
    (case a43 => k_is)
    (case l43 => k_is)
    (case c43 => k_is)
    (case k43 => k_is)
    (case a44 => k_is)
    (case l44 => k_is)
    (case c44 => k_is)
    (case k44 => k_is)
    (case z_int => k_is)
    (case z_bool => k_is)
    (case z_str => k_is)
    (case z_list => k_is)
    (case z_tuple => k_is)
    (case z_len => k_is)
    (case z_sum => k_is)
    (case z_abs => k_is)
    (case z_all => k_is)
    (case z_range => k_is)
    (case z_isinstance => k_is)
    (case z_enumerate => k_is)
    (case z_max => k_is)
    (case z_min => k_is)
    (case z_sorted => k_is)
    (case c_MOST_KINDS => k_is)
    (case c_LAST_KIND => k_is)
    (case c_ON_WIRES => k_is)
    (case c_comb => k_is)
    (case aCT => k_is)
    (case aCInvalidNumber => k_is)
    (case xLInvalidNumber => k_is)
    (case saInvalidNumber => k_is)
    (case gaInvalidNumber => k_is)
    (case ggInvalidNumber => k_is)
    (case nbInvalidNumber => k_is)
    (case iCInvalidNumber => k_is)
    (case tIInvalidNumber => k_is)
    (case lIInvalidNumber => k_is)
    (case cIInvalidNumber => k_is)
    (case kIInvalidNumber => k_is)
    (case kCInvalidNumber => k_is)
    (case eCInvalidNumber => k_is)
    (case tCInvalidNumber => k_is)
    (case hCInvalidNumber => k_is)
    (case iSInvalidNumber => k_is)
    (case aCInvalidKinds => k_is)
    (case xLInvalidKinds => k_is)
    (case saInvalidKinds => k_is)
    (case gaInvalidKinds => k_is)
    (case ggInvalidKinds => k_is)
    (case nbInvalidKinds => k_is)
    (case iCInvalidKinds => k_is)
    (case tIInvalidKinds => k_is)
    (case lIInvalidKinds => k_is)
    (case cIInvalidKinds => k_is)
    (case kIInvalidKinds => k_is)
    (case kCInvalidKinds => k_is)
    (case eCInvalidKinds => k_is)
    (case tCInvalidKinds => k_is)
    (case hCInvalidKinds => k_is)
    (case iSInvalidKinds => k_is)
    (case aCInvalidSizes => k_is)
    (case xLInvalidSizes => k_is)
    (case saInvalidSizes => k_is)
    (case gaInvalidSizes => k_is)
    (case ggInvalidSizes => k_is)
    (case nbInvalidSizes => k_is)
    (case iCInvalidSizes => k_is)
    (case tIInvalidSizes => k_is)
    (case lIInvalidSizes => k_is)
    (case cIInvalidSizes => k_is)
    (case kIInvalidSizes => k_is)
    (case kCInvalidSizes => k_is)
    (case eCInvalidSizes => k_is)
    (case tCInvalidSizes => k_is)
    (case hCInvalidSizes => k_is)
    (case iSInvalidSizes => k_is)
    (case aCInvalidRank => k_is)
    (case xLInvalidRank => k_is)
    (case saInvalidRank => k_is)
    (case gaInvalidRank => k_is)
    (case ggInvalidRank => k_is)
    (case nbInvalidRank => k_is)
    (case iCInvalidRank => k_is)
    (case tIInvalidRank => k_is)
    (case lIInvalidRank => k_is)
    (case cIInvalidRank => k_is)
    (case kIInvalidRank => k_is)
    (case kCInvalidRank => k_is)
    (case eCInvalidRank => k_is)
    (case tCInvalidRank => k_is)
    (case hCInvalidRank => k_is)
    (case iSInvalidRank => k_is)
    (case aCInvalidRounds => k_is)
    (case xLInvalidRounds => k_is)
    (case saInvalidRounds => k_is)
    (case gaInvalidRounds => k_is)
    (case ggInvalidRounds => k_is)
    (case nbInvalidRounds => k_is)
    (case iCInvalidRounds => k_is)
    (case tIInvalidRounds => k_is)
    (case lIInvalidRounds => k_is)
    (case cIInvalidRounds => k_is)
    (case kIInvalidRounds => k_is)
    (case kCInvalidRounds => k_is)
    (case eCInvalidRounds => k_is)
    (case tCInvalidRounds => k_is)
    (case hCInvalidRounds => k_is)
    (case iSInvalidRounds => k_is)
    (case eRR => first | rfl | k_is)

