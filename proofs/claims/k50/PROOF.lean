import PyProof.Rows.All
import Wide.All
import OpenK.AllK
import Wide.FinOn
import HandS.ForMost
import HandS.ForExc
import HandS.ExcInit
import HandS.ExcField
import HandS.TryMany
import HandS.IsInst
import HandS.Gcd
import HandS.Wide
import HandS.TupMul
import HandS.TupAny
import HandS.TupLe
import HandS.Deep
import HandS.Flow
import HandS.Defaults
import HandS.Evl
import HandS.More
import KE.KMathGC
import KE.KTupSum
import HandS.Style
import HandS.WordsDict
import PySem.Challenge.RW_upforgood_k50_numbers_told_at_once
set_option Elab.async false
set_option linter.all false
set_option maxRecDepth 100000
set_option maxHeartbeats 4000000
namespace L2.U
open PySem PySem.Spec PyProof.Rows Evl

/-! ## several except clauses, each with a name or without one -/
structure Clause where
  cls : Value
  slot : Option Nat
  rd : Addr → Value → Option Addr → TS
def afterC : Option Nat → Ends → Ends
  | none, D => D
  | some i, D => ⟨fun s h => D.nx (s.set i none) h, D.rt, fun s h => D.bk (s.set i none) h, fun s h => D.ct (s.set i none) h⟩
def holdC : Option Nat → Addr → St → St
  | none, _, s => s
  | some i, a, s => s.set i (some (.ref a))
def wishC (K : PySem.W.Frag) (Wo : WX) (D : Ends) : List Clause → WX
  | [] => Wo
  | c :: r => fun cls d s h => ∃ b, PySem.W.exmOne K cls c.cls = some b ∧
      (b = true → ∀ a, h a = none → c.rd a cls d (afterC c.slot D) (holdC c.slot a s) h) ∧ (b = false → wishC K Wo D r cls d s h)
abbrev SuiteOk (X : Cx) (body : List Stmt) (rd : Addr → Value → Option Addr → TS) : Prop :=
  ∀ (a : Addr) (o : Obj) (cls : Value) (d : Option Addr) (pn : List (Addr × Obj)), Zc cls d o → (∃ vs, o.data = .fields vs) → PSs (X.suite a ((a, o) :: pn)) body (rd a cls d)
inductive ClauseOk (X : Cx) : ExceptHandler → Clause → Prop
  | bare {x : Str} {c : Value} {rd} {b0 : Stmt} {su : List Stmt} {np p : Pos} (hc : Names X x c) (hs : SuiteOk X (b0 :: su) rd) :
      ClauseOk X (.ExceptHandler (some (.Name x np)) none (b0 :: su) p) ⟨c, none, rd⟩
  | named {x n : Str} {i : Nat} {c : Value} {rd} {b0 : Stmt} {su : List Stmt} {np p : Pos} (hN : X.N.Nodup) (hi : X.N[i]? = some n)
      (hl : X.env.kindOf n = some .local) (hc : Names X x c) (hs : SuiteOk X (b0 :: su) rd) :
      ClauseOk X (.ExceptHandler (some (.Name x np)) (some n) (b0 :: su) p) ⟨c, some i, rd⟩
inductive ClausesOk (X : Cx) : List ExceptHandler → List Clause → Prop
  | nil : ClausesOk X [] []
  | cons {h c hs cs} (a : ClauseOk X h c) (r : ClausesOk X hs cs) : ClausesOk X (h :: hs) (c :: cs)
section
variable {X : Cx} {body : List Stmt} {h0 : ExceptHandler} {hds : List ExceptHandler} {cs : List Clause} {pos : Pos} {tb : WX → TS} {Wo : WX}
theorem ps_tryC (hs : X.stack = X.env :: X.outer) (hf : X.env.frame = some X.env.locals) (tk : Takes X Wo)
    (hb : ∀ (W : WX) (pn : List (Addr × Obj)) (xe : Value → Shared → Prop), Takes (X.tr pn xe) W → PassesOwn (model X.prog X.w) X.A X.env xe → PSs (X.tr pn xe) body (tb W))
    (hh : ClausesOk X (h0 :: hds) cs) : PS X (.Try body (h0 :: hds) [] [] pos) (fun D s h => tb (wishC X.K Wo D cs) D s h) := by
  constructor
  intro pins s σ H D I h
  have ok := I.ok
  have frames : X.A.frames = some (X.env :: X.outer) := by rw [ok.frames, hs]
  refine wpAny_Try_except ?_
  let caught : Value → Shared → Prop := fun e s1 =>
    wpAny (model X.prog X.w) X.A (noteFrame e X.env) (fun _ s2 => wpAny (model X.prog X.w) X.A (setFlight e none)
      (fun _ s3 => wpAny (model X.prog X.w) X.A (handleBy e X.env (h0 :: hds)) (SP X pins D) X.xe s3) X.xe s2) X.xe s1
  have takesB : Takes (X.tr (X.pn ++ pins) caught) (wishC X.K Wo D cs) := by
    rintro u s' ⟨a, B, sI, pins', σ', H', cls, d, rfl, J0, nb, up, sky, na, os, ag, w⟩
    have J : Inv X pins σ' H' sI := J0.ofTry ok
    have sky1 : Sky B (X.env :: X.outer) a (Zc cls d) X.env.locals s'.heap := hs ▸ sky
    show wpAny _ X.A (noteFrame (.ref a) X.env) _ _ _
    refine Sky.land Zc.steady frames hf sky1 fun h3 fl up3 => ?_
    have J3 : Inv X pins σ' H' { s' with heap := h3 } := J.landed nb fl.1 (up.trans up3) os ag
    obtain ⟨o3, v3, g3, z3, d3⟩ := fl.there
    have out : a ∉ frs (X.env :: X.outer) := by
      intro hm
      obtain ⟨_, o', e', no⟩ := fl.2.2.1.mem hm
      rw [g3] at e'
      cases e'
      exact no _ d3
    have nL : a ≠ X.env.locals := by
      intro z
      exact out (List.mem_filterMap.mpr ⟨X.env, List.mem_cons_self, z ▸ hf⟩)
    have nF : a ∉ X.fs := by
      intro hm
      obtain ⟨e, he, q⟩ := List.mem_filterMap.mp hm
      exact out (List.mem_filterMap.mpr ⟨e, List.mem_cons_of_mem _ he, q⟩)
    have S3 := J3.suite g3 d3 na nL nF
    have ty : PySem.W.Looks (model X.prog X.w) h3 (typeOf (.ref a)) cls := fun A Q E t k q => wpAny_typeOf_ref (k _ _ g3) (by rw [z3.1]; exact q)
    have asked : ∀ {x : Str} {c : Value} {np : Pos} {Q E : Value → Shared → Prop}, Names X x c → Q c { s' with heap := h3 } →
        wpAny (model X.prog X.w) (X.A.mark (some (.ref a))) (eval (.Name x np) X.env) Q E { s' with heap := h3 } := by
      rintro x c np Q E ⟨hg, hd, hm | ⟨hm, hv, hn⟩⟩ q
      · exact ld_glob (X := X.suite a ((a, o3) :: (X.pn ++ pins))) S3 hg hm q hd
      · exact ld_blt (X := X.suite a ((a, o3) :: (X.pn ++ pins))) S3 hg hm hv q hn hd
    have run : ∀ {l : List ExceptHandler} {k : List Clause}, ClausesOk X l k → wishC X.K Wo D k cls d σ' H' →
        wpAny (model X.prog X.w) X.A (handleBy (.ref a) X.env l) (SP X pins D) X.xe { s' with heap := h3 } := by
      intro l k hk
      induction hk with
      | nil =>
        intro w
        refine wpAny_handleBy_nil ?_
        obtain ⟨_, _, _, oe, vs, T, oT, ts, he, _, hd, h1, _⟩ := id fl
        unfold PySem.passOn
        refine wpAny_bind (wpAny_field he hd h1 ?_)
        rw [if_neg (by simp : ¬ ((Value.ref T == Value.none) = true))]
        have up : wpAny (model X.prog X.w) X.A (setFlight (.ref a) X.env.frame)
            (fun _ t => wpAny (model X.prog X.w) X.A (throw (.ref a) : Sem Flow) (SP X pins D) X.xe t) X.xe { s' with heap := h3 } := by
          rw [hf]
          refine HandSPX.setFlight_upZ fl fun h4 hh4 up4 => wpAny_throw (tk _ _ ?_)
          refine ⟨a, B, sI, pins, σ', H', cls, d, rfl, J, nb, (up.trans up3).trans up4, .inr (.inr ?_), na, os, ag, w⟩
          rw [hs]
          exact hh4
        first
          | exact wpAny_bind (wpAny_pure (wpAny_bind up))
          | exact wpAny_bind up
      | @cons h1 c hs1 cs1 hc1 _ ih =>
        rintro ⟨b, mb, yes, no⟩
        have LM := PySem.W.exm_one (M := model X.prog X.w) J3.kIn ty mb
        cases hc1 with
        | @bare x c rd b0 su np p hc hsu =>
          refine wpAny_handleBy_cons (codeAny_handlers_test ?_) (by intro q; cases q)
          refine asked hc (LM.here ?_)
          cases b with
          | false => exact ih (no rfl)
          | true =>
            refine codeAny_handlers_suite (HandSPX.lands_againZ fl fun h4 fl4 up4 => ?_)
            have J4 : Inv X pins σ' H' { s' with heap := h4 } := J.landed nb fl4.1 ((up.trans up3).trans up4) os ag
            obtain ⟨o4, v4, g4, z4, d4⟩ := fl4.there
            refine wpAny_mono ((hsu a o4 cls d (X.pn ++ pins) z4 ⟨_, d4⟩).run [] _ _ H' _ (J4.suite g4 d4 na nL nF) (yes rfl a na)) ?_ (fun _ _ z => False.elim z)
            intro f s6 sp
            cases f with
            | ret u => obtain ⟨v6, σ6, H6, S6, r6, q6⟩ := sp; exact ⟨_, _, _, S6.unsuite ok, r6, q6⟩
            | next => obtain ⟨σ6, H6, S6, q6⟩ := sp; exact ⟨_, _, S6.unsuite ok, q6⟩
            | brk => obtain ⟨σ6, H6, S6, q6⟩ := sp; exact ⟨_, _, S6.unsuite ok, q6⟩
            | cont => obtain ⟨σ6, H6, S6, q6⟩ := sp; exact ⟨_, _, S6.unsuite ok, q6⟩
        | @named x n i c rd b0 su np p hN hi hl hc hsu =>
          refine wpAny_handleBy_cons (codeAny_handlers_test ?_) (by intro q; cases q)
          refine asked hc (LM.here ?_)
          cases b with
          | false => exact ih (no rfl)
          | true =>
            refine codeAny_handlers_suite_as (HandSPX.lands_againZ fl fun h4 fl4 up4 => ?_)
            have J4 : Inv X pins σ' H' { s' with heap := h4 } := J.landed nb fl4.1 ((up.trans up3).trans up4) os ag
            obtain ⟨o4, v4, g4, z4, d4⟩ := fl4.there
            refine store_ok (X := X.suite a ((a, o4) :: (X.pn ++ pins))) (v := .ref a) (J4.suite g4 d4 na nL nF) hN hi (.inl hl) rfl (fun s5 S5 => ?_) (.inr hl)
            refine wpAny_mono ((hsu a o4 cls d (X.pn ++ pins) z4 ⟨_, d4⟩).run [] s5 _ H' _ S5 (yes rfl a na)) ?_ (fun _ _ z => False.elim z)
            intro f s6 sp
            have gone : ∀ {σ6 : St} {H6 : Hp} {Q : Shared → Prop}, Inv (X.suite a ((a, o4) :: (X.pn ++ pins))) [] σ6 H6 s6 → (∀ t, Inv X pins (σ6.set i none) H6 t → Q t) →
                wpAny (model X.prog X.w) X.A (do bindName X.env n .none; unbindBehindTheSuite X.env n p) (fun _ t => Q t) X.xe s6 := fun S6 hq => gone_ok (S6.unsuite ok) hN hi hl hq
            cases f with
            | ret u => obtain ⟨v6, σ6, H6, S6, r6, q6⟩ := sp; exact gone S6 fun t J7 => ⟨_, _, _, J7, r6, q6⟩
            | next => obtain ⟨σ6, H6, S6, q6⟩ := sp; exact gone S6 fun t J7 => ⟨_, _, J7, q6⟩
            | brk => obtain ⟨σ6, H6, S6, q6⟩ := sp; exact gone S6 fun t J7 => ⟨_, _, J7, q6⟩
            | cont => obtain ⟨σ6, H6, S6, q6⟩ := sp; exact gone S6 fun t J7 => ⟨_, _, J7, q6⟩
    exact run hh w
  refine wpAny_mono ((hb (wishC X.K Wo D cs) (X.pn ++ pins) caught takesB PassesOwn.looking).run [] s σ H D (I.toTry _) h) ?_ (fun e s1 he => he)
  intro f s1 sp
  cases f with
  | ret u => obtain ⟨v, σ', H', J', r, q⟩ := sp; exact ⟨v, σ', H', J'.ofTry ok, r, q⟩
  | next => obtain ⟨σ', H', J', q⟩ := sp; exact wpAny_execs_nil ⟨σ', H', J'.ofTry ok, q⟩
  | brk => obtain ⟨σ', H', J', q⟩ := sp; exact ⟨σ', H', J'.ofTry ok, q⟩
  | cont => obtain ⟨σ', H', J', q⟩ := sp; exact ⟨σ', H', J'.ofTry ok, q⟩
end

/-! ## f(k = v, ..): keywords alone -/
def tCallKw (sp : Sp) (pm : List V → List V) (E : St → XK) (tk : TA) : TE := fun σ H Q => tk σ H fun zs H1 => sp (pm zs) H1 Q (E σ)
section
variable {X : Cx} {CX : CXT} {k : Nat} {f : Addr} {fd : FuncData} {ps ks : List Str} {sp : Sp} {E : St → XK} {x : Str} {p pos : Pos} {kws : List Keyword} {tk : TA}
  {g : List Value → List Value → List Value} {gV : List V → List V → List V}
theorem pe_callKw (F : FnOk X.prog X.w X.K X.mg X.base CX k f fd ps sp) (hr : Room k X.A) (hg : Gl X x) (hm : X.mg x = some (.ref f)) (hk : PySem.W.keepIn X.K (.ref f) = true)
    (hb : KBinds X.K fd ps ks g gV) (hx : ∀ σ, PassesAt CX X σ (E σ)) (hkw : PK X kws tk)
    (hall : (backToKw pos (keywordEach kws X.env)).all (·.1.isSome) = true := by rfl) (hks : (backToKw pos (keywordEach kws X.env)).filterMap (·.1) = ks := by rfl)
    (hdb : (x == ("__debug__" : Str)) = false := by decide)
    (hpl : ((backTo pos (starEach [] X.env)).any (·.1) || (backToKw pos (keywordEach kws X.env)).any (·.1.isNone)) = false := by rfl) :
    PE X (.Call (.Name x p) [] kws pos) (tCallKw sp (gV []) E tk) := by
  constructor
  intro pins s σ H Q I h
  refine wpAny_Call_Name_kw (ld_glob I hg hm ?_ hdb)
  refine PySem.W.callWith_KW0 (h₀ := X.base) I.ok.mod.kin hk hall (thn (hkw.run pos pins s σ H _ I h) ?_) hpl
  rintro ws s2 ⟨zs, H2, I2, rz, q2⟩
  refine ⟨I2.kIn, ?_⟩
  rw [hks]
  have r2 : Vals (gV [] zs) (g [] ws) := hb.rel .nil rz
  have hl : (g [] ws).length = ps.length := by rw [← r2.length]; exact F.len _ _ _ _ q2
  refine wpAny_call (codeAny_mono (F.run X.A X.stack s2 H2 ⟨[], ks.zip ws⟩ (g [] ws) (gV [] zs) Q (E σ) hr I2.env0 (hb.to s2 [] ws I2.kIn hl) r2 q2) ?_)
  intro r s' hq
  cases r with
  | error e => exact hx σ pins H2 s2 e s' I2 hq
  | ok fl => cases fl with
    | ret u => exact I2.after hq
    | next => exact False.elim hq
    | brk => exact False.elim hq
    | cont => exact False.elim hq
end

/-! ## math.comb, and tuple * int with few turns -/
section
variable {X : Cx}
def rComb : List V → Hp → VK → Prop := fun vs H Q => ∃ a b : Int, vs = [.int a, .int b] ∧ 0 ≤ a ∧ a ≤ 1000 ∧ 0 ≤ b ∧ b ≤ 1000 ∧ Q (.int (PySem.W.mcComb a b)) H
theorem cr_comb : CallR X (.builtin "math.comb") rComb := by
  intro pins s σ H vs us Q I r h
  obtain ⟨a, b, rfl, h1, h2, h3, h4, q⟩ := h
  obtain ⟨u1, u2, rfl, r1, r2⟩ := vals2 r
  obtain ⟨t, rfl⟩ := r1
  obtain ⟨u, rfl⟩ := r2
  exact PySem.W.mc_comb h1 h3 (by omega) (by omega) fun _ => ⟨.int _, H, I.tok _, ⟨_, rfl⟩, q⟩
end

/-! ## sum of a list or a tuple of ints; x *= y of great ints; a for over a list or a tuple -/
section
variable {X : Cx}
def rSumS (K : PySem.W.Frag) : List V → Hp → VK → Prop := fun vs H Q => ∃ (a : Addr) (ns : List Int), vs = [V.ref a] ∧ (SqL K H a (ns.map V.int) ∨ SqT K H a (ns.map V.int)) ∧ Q (.int ns.sum) H
theorem cr_sumS (hc : X.calm = true) : CallR X (.builtin "sum") (rSumS X.K) := by
  intro pins s σ H vs us Q I r h
  obtain ⟨a, ns, e, hs | hs, q⟩ := h
  · exact cr_sum hc pins s σ H vs us Q I r ⟨a, ns, e, hs, q⟩
  · subst e
    obtain ⟨its, rv, hl, _⟩ := I.tuple hs
    rw [Vals.ref1 r]
    have hi := rv.ints
    have hl2 : s.heap.IsTuple a its.toArray := hl
    obtain ⟨xs, ex⟩ := hi.allInts.items
    have hn : numsOf (intItems xs).toList = ns := by rw [← ex]; exact hi.numsOf
    rw [nums_intItems] at hn
    rw [ex] at hl2
    refine PySem.W.ktm_sumG (I.ok.hd hc) hl2 fun h' tk t' hk => ?_
    rw [preSum_eq, List.take_of_length_le (by simp), hn]
    exact ⟨.int _, H, I.kept hk, ⟨_, rfl⟩, q⟩
theorem ip_mulC : PIp X .Mult (fun x y H Q => ∃ i j, x = .int i ∧ y = .int j ∧ CMul i j ∧ Q (.int (i * j)) H) := by
  intro pins s σ H x y v u Q I r1 r2 h
  obtain ⟨i, j, rfl, rfl, hc, q⟩ := h
  obtain ⟨t, rfl⟩ := r1
  obtain ⟨t', rfl⟩ := r2
  exact imul_int ⟨.int _, H, I.tok _, ⟨_, rfl⟩, q⟩ hc.ok
def iSeq (K : PySem.W.Frag) (tl : TE) : TI := fun σ H R => iList K tl σ H R ∨ iTup K tl σ H R
theorem pi_seq {tg l : Expr} {tl : TE} (hl : PE X l tl) : PI X tg l (iSeq X.K tl) := by
  constructor
  intro pins s σ H R I h
  rcases h with h | h
  · exact (pi_list hl).run pins s σ H R I h
  · exact (pi_tup hl).run pins s σ H R I h
end

/-! ## how keywords bind -/
def kw1 {α : Type} : List α → List α → List α
  | [], [a] => [a]
  | _, _ => []
def kw12 {α : Type} : List α → List α → List α
  | [], [a, b] => [a, b]
  | _, _ => []
def kw21 {α : Type} : List α → List α → List α
  | [], [a, b] => [b, a]
  | _, _ => []
theorem kw1_rel {vs : List V} {us : List Value} {zs : List V} {ws : List Value} (r : Vals vs us) (t : Vals zs ws) : Vals (kw1 vs zs) (kw1 us ws) := by
  cases r with
  | cons _ _ => exact .nil
  | nil => cases t with
    | nil => exact .nil
    | cons a t => cases t with
      | nil => exact .cons a .nil
      | cons _ _ => exact .nil
theorem kw12_rel {vs : List V} {us : List Value} {zs : List V} {ws : List Value} (r : Vals vs us) (t : Vals zs ws) : Vals (kw12 vs zs) (kw12 us ws) := by
  cases r with
  | cons _ _ => exact .nil
  | nil => cases t with
    | nil => exact .nil
    | cons a t => cases t with
      | nil => exact .nil
      | cons b t => cases t with
        | nil => exact .cons a (.cons b .nil)
        | cons _ _ => exact .nil
theorem kw21_rel {vs : List V} {us : List Value} {zs : List V} {ws : List Value} (r : Vals vs us) (t : Vals zs ws) : Vals (kw21 vs zs) (kw21 us ws) := by
  cases r with
  | cons _ _ => exact .nil
  | nil => cases t with
    | nil => exact .nil
    | cons a t => cases t with
      | nil => exact .nil
      | cons b t => cases t with
        | nil => exact .cons b (.cons a .nil)
        | cons _ _ => exact .nil
theorem kb1 {K : PySem.W.Frag} {x qual : Str} {st : Stmt} {f : Addr} {fd : FuncData} {p k : Str} (F : Fun K x qual st f fd)
    (h : ∀ (kV doc pm : Value) (an : Option Addr) (cdv ct : Value) (u : Value), bindArgs (PySem.W.fnOf x qual (defArgs st) (defBody st) (defScope st) .none kV doc pm an cdv ct) ⟨[], [(k, u)]⟩ = pure [(p, u)]) : KBinds K fd [p] [k] kw1 kw1 := by
  obtain ⟨oc, od, kV, doc, pm, an, cdv, ct, osl, rfl, lk, hcd⟩ := F.ex
  refine ⟨fun s us ws _ hl => ?_, kw1_rel⟩
  match us, ws, hl with
  | [], [u], _ => exact .of_eq (h kV doc pm an cdv ct u)
theorem kb12 {K : PySem.W.Frag} {x qual : Str} {st : Stmt} {f : Addr} {fd : FuncData} {p q k l : Str} (F : Fun K x qual st f fd)
    (h : ∀ (kV doc pm : Value) (an : Option Addr) (cdv ct : Value) (u w : Value), bindArgs (PySem.W.fnOf x qual (defArgs st) (defBody st) (defScope st) .none kV doc pm an cdv ct) ⟨[], [(k, u), (l, w)]⟩ = pure [(p, u), (q, w)]) : KBinds K fd [p, q] [k, l] kw12 kw12 := by
  obtain ⟨oc, od, kV, doc, pm, an, cdv, ct, osl, rfl, lk, hcd⟩ := F.ex
  refine ⟨fun s us ws _ hl => ?_, kw12_rel⟩
  match us, ws, hl with
  | [], [u, w], _ => exact .of_eq (h kV doc pm an cdv ct u w)
theorem kb21 {K : PySem.W.Frag} {x qual : Str} {st : Stmt} {f : Addr} {fd : FuncData} {p q k l : Str} (F : Fun K x qual st f fd)
    (h : ∀ (kV doc pm : Value) (an : Option Addr) (cdv ct : Value) (u w : Value), bindArgs (PySem.W.fnOf x qual (defArgs st) (defBody st) (defScope st) .none kV doc pm an cdv ct) ⟨[], [(k, u), (l, w)]⟩ = pure [(p, w), (q, u)]) : KBinds K fd [p, q] [k, l] kw21 kw21 := by
  obtain ⟨oc, od, kV, doc, pm, an, cdv, ct, osl, rfl, lk, hcd⟩ := F.ex
  refine ⟨fun s us ws _ hl => ?_, kw21_rel⟩
  match us, ws, hl with
  | [], [u, w], _ => exact .of_eq (h kV doc pm an cdv ct u w)

/-! ## tuple * int -/
theorem tmul0 (l : Addr) (items : Array Value) (n : Nat) (dd : Option Addr) (sl : Array (Option Value)) (u : Tok) (hne : items.isEmpty = false) :
    Meets (Builtin.«tuple.__mul__» ⟨[.ref l, .int 0 u], []⟩) (fun _ R s => s.heap.get? l = some { cls := .type "tuple", dict := dd, data := .seq items n, slots := sl } ∧
      R (.ok (.ret (Value.ref s.heap.objs.size))) { s with heap := s.heap.push { cls := Value.type "tuple", data := Data.seq #[] } }) :=
  .of_wp fun prog w A R s h => by
    obtain ⟨hp, g, d, tk, os⟩ := s
    obtain ⟨hl, h⟩ := h
    have f1 := AutoSeq1.idx_int
    have c1 : (items.isEmpty || (0 : Int) == 1) = false := by rw [hne]; rfl
    wp_walk using wpAny_loadPart' hl
    exact ⟨_, rfl, h⟩
theorem tmul1 (l : Addr) (items : Array Value) (n : Nat) (dd : Option Addr) (sl : Array (Option Value)) (u : Tok) (hne : items.isEmpty = false) :
    Meets (Builtin.«tuple.__mul__» ⟨[.ref l, .int 1 u], []⟩) (fun _ R s => s.heap.get? l = some { cls := .type "tuple", dict := dd, data := .seq items n, slots := sl } ∧
      R (.ok (.ret (Value.ref l))) s) :=
  .of_wp fun prog w A R s h => by
    obtain ⟨hp, g, d, tk, os⟩ := s
    obtain ⟨hl, h⟩ := h
    have f1 := AutoSeq1.idx_int
    wp_walk using wpAny_loadPart' hl
    exact ⟨_, rfl, h⟩

def rRepA (K : PySem.W.Frag) : R2 := fun x y H Q => ∃ (l : Addr) (k : Int) (xs : List V), x = .ref l ∧ y = .int k ∧ SqT K H l xs ∧ xs ≠ [] ∧ 0 ≤ k ∧ k ≤ 1000 ∧ xs.length ≤ 1000 ∧
  ∀ p H', Ex H H' → SqT K H' p (List.replicate k.toNat xs).flatten → Q (.ref p) H'
theorem op_repA {X : Cx} : OpR X (binaryOp .Mult) (rRepA X.K) := by
  intro pins s σ H x y v u Q I rx ry h
  obtain ⟨l, k, xs, rfl, rfl, hT, hne, h0, h1, hz, q⟩ := h
  by_cases h2 : 2 ≤ k
  · exact op_repT pins s σ H (.ref l) (.int k) v u Q I rx ry ⟨l, k, xs, rfl, rfl, hT, hne, h2, h1, hz, fun p hp => q p _ (Ex.new hp) (st_of upd_same)⟩
  · cases rx
    obtain ⟨t, rfl⟩ := ry
    obtain ⟨its, r, ⟨⟨cls, dd, data, sl⟩, ho, hc, n, hd⟩, hs⟩ := I.tuple hT
    simp only at hc hd
    subst hc hd
    have hle : its.length = xs.length := r.length.symm
    have hi : its.toArray.isEmpty = false := by
      cases its with
      | nil => exact absurd (List.eq_nil_of_length_eq_zero hle.symm) hne
      | cons a b => rfl
    rcases (by omega : k = 0 ∨ k = 1) with rfl | rfl
    · refine wpAny_binaryOp_repeat_ref (T := "tuple") (U := "int") (by decide) ⟨_, ho, rfl⟩ (fun s' => typeIs_int s' 0 t) noFill_tuple_mul F.fills_int_mul F.slot_int_rmul repeat_tuple F.slot_int_index.lookup
        (call_meets F.slot_int_rmul (typeIs_int s 0 t) F.entry_int_rmul (F.args_int_rmul_2 _ _) (int_rmul_tuple 0 t l its.toArray n dd sl)
          ⟨ho, rfl, ⟨_, ho, rfl⟩, call_meets F.slot_tuple_mul ⟨_, ho, rfl⟩ F.entry_tuple_mul (F.args_tuple_mul_2 _ _) (tmul0 l its.toArray n dd sl t hi) ⟨ho, ?_⟩⟩)
      refine ⟨.ref s.heap.objs.size, _, I.laid (t' := s.toks) (o := .tup []) (fun b ob e => Heap.get?_push_of_some _ e) (Nat.le_refl _) ?_, rfl, q _ _ (Ex.new (I.hok.fresh (Nat.le_refl _))) (st_of upd_same)⟩
      exact ⟨Nat.zero_le _, [], .nil, IsTup.new _ _⟩
    · refine wpAny_binaryOp_repeat_ref (T := "tuple") (U := "int") (by decide) ⟨_, ho, rfl⟩ (fun s' => typeIs_int s' 1 t) noFill_tuple_mul F.fills_int_mul F.slot_int_rmul repeat_tuple F.slot_int_index.lookup
        (call_meets F.slot_int_rmul (typeIs_int s 1 t) F.entry_int_rmul (F.args_int_rmul_2 _ _) (int_rmul_tuple 1 t l its.toArray n dd sl)
          ⟨ho, rfl, ⟨_, ho, rfl⟩, call_meets F.slot_tuple_mul ⟨_, ho, rfl⟩ F.entry_tuple_mul (F.args_tuple_mul_2 _ _) (tmul1 l its.toArray n dd sl t hi) ⟨ho, ?_⟩⟩)
      refine ⟨.ref l, H, I, rfl, q _ _ (Ex.refl H) ?_⟩
      have e : (List.replicate (Int.toNat 1) xs).flatten = xs := by simp
      rw [e]
      exact hT

/-! ## a def of the text, in one bundle -/
structure DefAt (K : PySem.W.Frag) (mg : Str → Option Value) (x : Str) (st : Stmt) (ps : List Str) where
  a : Addr
  fd : FuncData
  F : Fun K x x st a fd
  m : mg x = some (.ref a)
  b : Binds K fd ps []
theorem pass0At {X : Cx} {σ : St} : PassesAt CX0 X σ E0 := fun _ _ _ _ _ _ h => h.elim

/-! ## heaps: all but one object stands -/
def But (b : Addr) (H H' : Hp) : Prop := ∀ a o, a ≠ b → H a = some o → H' a = some o
theorem But.of {b : Addr} {H H' : Hp} (e : Ex H H') : But b H H' := fun a o _ h => e a o h
theorem But.trans {b : Addr} {H H1 H2 : Hp} (x : But b H H1) (y : But b H1 H2) : But b H H2 := fun a o n h => y a o n (x a o n h)
theorem But.ex {b : Addr} {H H1 H2 : Hp} (x : But b H H1) (y : Ex H1 H2) : But b H H2 := fun a o n h => y a o (x a o n h)
theorem But.pre {b : Addr} {H H1 H2 : Hp} (x : Ex H H1) (y : But b H1 H2) : But b H H2 := fun a o n h => y a o n (x a o h)
theorem But.upd {b : Addr} {H : Hp} {o : HO} : But b H (upd H b o) := fun a u n h => by rw [upd_ne n]; exact h
theorem But.none {b p : Addr} {H H' : Hp} {o : HO} (x : But b H H') (hb : H b = some o) (h : H' p = none) : p ≠ b → H p = none := fun n => by
  cases e : H p with
  | none => rfl
  | some u => rw [x p u n e] at h; cases h
theorem ne_new {H : Hp} {p b : Addr} {o : HO} (h : H p = none) (hb : H b = some o) : p ≠ b := fun e => by rw [e, hb] at h; cases h
/-- what is frozen or written stands whatever happens to b; a tracked list that is no b, too -/
theorem But.sql {K : PySem.W.Frag} {b a : Addr} {H H' : Hp} {xs : List V} (x : But b H H') (n : a ≠ b) (h : SqL K H a xs) : SqL K H' a xs := by
  rcases h with (h | ⟨o, h⟩) | h
  · exact .inl (.inl (x _ _ n h))
  · exact .inl (.inr ⟨o, x _ _ n h⟩)
  · exact .inr h
theorem But.sqt {K : PySem.W.Frag} {b a : Addr} {H H' : Hp} {xs : List V} (x : But b H H') (n : a ≠ b) (h : SqT K H a xs) : SqT K H' a xs := by
  rcases h with (h | ⟨o, h⟩) | h
  · exact .inl (.inl (x _ _ n h))
  · exact .inl (.inr ⟨o, x _ _ n h⟩)
  · exact .inr h

/-! ## the box of draws: digits, flag, seed, count; n draws are left -/
def BoxAt (H : Hp) (b : Addr) (n : Nat) : Prop := ∃ (d m c : Int) (f : Bool), H b = some (.lst [.int d, .bl f, .int m, .int c]) ∧ 0 ≤ d ∧ 0 ≤ m ∧ m < 2147483648 ∧ 0 ≤ c ∧ c + n ≤ 1000000
theorem BoxAt.some {H : Hp} {b : Addr} {n : Nat} (h : BoxAt H b n) : ∃ o, H b = some o := by
  obtain ⟨d, m, c, f, h, _⟩ := h
  exact ⟨_, h⟩
theorem BoxAt.le {H : Hp} {b : Addr} {n k : Nat} (h : BoxAt H b n) (l : k ≤ n) : BoxAt H b k := by
  obtain ⟨d, m, c, f, h, h1, h2, h3, h4, h5⟩ := h
  exact ⟨d, m, c, f, h, h1, h2, h3, h4, by omega⟩
theorem BoxAt.ex {H H' : Hp} {b : Addr} {n : Nat} (h : BoxAt H b n) (e : Ex H H') : BoxAt H' b n := by
  obtain ⟨d, m, c, f, h, r⟩ := h
  exact ⟨d, m, c, f, e _ _ h, r⟩
theorem BoxAt.ne {H : Hp} {b p : Addr} {n : Nat} (h : BoxAt H b n) (hp : H p = none) : p ≠ b := by
  obtain ⟨d, m, c, f, h, _⟩ := h
  exact ne_new hp h
def spCell (K : PySem.W.Frag) : Sp := fun vs H Q _ => ∃ (a : Addr) (ns : List Int) (k : Int), vs = [.ref a, .int k] ∧ SqL K H a (ns.map V.int) ∧ 0 ≤ k ∧ k ≤ 1000 ∧ ∀ (v : Int) H', Ex H H' → Q (.int v) H'
def spBox : Sp := fun vs H Q _ => ∃ g : Int, vs = [.int g] ∧ ∀ p H', H p = none → Ex H H' → BoxAt H' p 1000000 → Q (.ref p) H'
def spTake : Sp := fun vs H Q _ => ∃ (b : Addr) (m : Int) (n : Nat), vs = [.ref b, .int m] ∧ 0 < m ∧ m < 1073741824 ∧ BoxAt H b (n + 1) ∧
  ∀ r H', 0 ≤ r → r < m → BoxAt H' b n → But b H H' → Q (.int r) H'

/-! ## types of data -/
theorem tyL {K : PySem.W.Frag} {H : Hp} {a : Addr} {xs : List V} (h : SqL K H a xs) : TyX K H (.ref a) (.type "list") := by
  rcases h with (h | ⟨o, h⟩) | ⟨o, its, n, hk, hc, _⟩
  · exact .base (.lst h)
  · exact .base (.frz h)
  · exact .kList hk hc
theorem tyT {K : PySem.W.Frag} {H : Hp} {a : Addr} {xs : List V} (h : SqT K H a xs) : TyX K H (.ref a) (.type "tuple") := by
  rcases h with (h | ⟨o, h⟩) | ⟨o, its, n, hk, hc, _⟩
  · exact .base (.tup h)
  · exact .fTuple h
  · exact .kTuple hk hc
/-- two values that hold the same, at most n lists and tuples within one another -/
inductive Sm (K : PySem.W.Frag) (H : Hp) : Nat → V → V → Prop
  | non {n} : Sm K H n .non .non
  | bl {n} (b : Bool) : Sm K H n (.bl b) (.bl b)
  | int {n} (i : Int) : Sm K H n (.int i) (.int i)
  | str {n} (z : Str) (h : z.length ≤ 1000) : Sm K H n (.str z) (.str z)
  | lst {n} {a b : Addr} {xs ys : List V} (h1 : SqL K H a xs) (h2 : SqL K H b ys) (hl : xs.length = ys.length) (hz : xs.length ≤ 1000)
      (all : ∀ (i : Nat) (x y : V), xs[i]? = some x → ys[i]? = some y → Sm K H n x y) : Sm K H (n + 1) (.ref a) (.ref b)
  | tup {n} {a b : Addr} {xs ys : List V} (h1 : SqT K H a xs) (h2 : SqT K H b ys) (hl : xs.length = ys.length) (hz : xs.length ≤ 1000)
      (all : ∀ (i : Nat) (x y : V), xs[i]? = some x → ys[i]? = some y → Sm K H n x y) : Sm K H (n + 1) (.ref a) (.ref b)
theorem Sm.ex {K : PySem.W.Frag} {H H' : Hp} (e : Ex H H') {n : Nat} {x y : V} (h : Sm K H n x y) : Sm K H' n x y := by
  induction h with
  | non => exact .non
  | bl b => exact .bl b
  | int i => exact .int i
  | str z h => exact .str z h
  | lst h1 h2 hl hz _ ih => exact .lst (ex_l e h1) (ex_l e h2) hl hz ih
  | tup h1 h2 hl hz _ ih => exact .tup (ex_t e h1) (ex_t e h2) hl hz ih
theorem Sm.succ {K : PySem.W.Frag} {H : Hp} {n : Nat} {x y : V} (h : Sm K H n x y) : Sm K H (n + 1) x y := by
  induction h with
  | non => exact .non
  | bl b => exact .bl b
  | int i => exact .int i
  | str z h => exact .str z h
  | lst h1 h2 hl hz _ ih => exact .lst h1 h2 hl hz ih
  | tup h1 h2 hl hz _ ih => exact .tup h1 h2 hl hz ih
theorem Sm.le {K : PySem.W.Frag} {H : Hp} {n m : Nat} {x y : V} (h : Sm K H n x y) (l : n ≤ m) : Sm K H m x y := by
  induction l with
  | refl => exact h
  | step _ ih => exact ih.succ
theorem Sm.ints {K : PySem.W.Frag} {H : Hp} {n : Nat} {ns : List Int} : ∀ (i : Nat) (x y : V), (ns.map V.int)[i]? = some x → (ns.map V.int)[i]? = some y → Sm K H n x y := by
  intro i x y h1 h2
  rw [h1] at h2
  cases h2
  rw [List.getElem?_map] at h1
  cases e : ns[i]? with
  | none => rw [e] at h1; cases h1
  | some z => rw [e] at h1; cases h1; exact .int z
def spSame (K : PySem.W.Frag) (n : Nat) : Sp := fun vs H Q _ => ∃ x y, vs = [x, y] ∧ Sm K H n x y ∧ ∀ H', Ex H H' → Q (.bl true) H'
theorem cut_one {z : Str} {k : Nat} {c : Nat} (h : z.cps.toList[k]? = some c) : cutS z (some (k : Int)) (some ((k : Int) + 1)) = ⟨#[c]⟩ := by
  have hk := (List.getElem?_eq_some_iff.mp h).1
  have hz : z.cps.toList.length = z.length := Array.length_toList
  unfold cutS
  have e : ((k : Int) + 1) = ((k + 1 : Nat) : Int) := by omega
  rw [e, HT.sIx_nat, HT.sIx_nat, Nat.min_eq_left (by omega), Nat.min_eq_left (by omega)]
  have e2 : k + 1 - k = 1 := by omega
  rw [e2, List.drop_eq_getElem_cons hk]
  have e3 := (List.getElem?_eq_some_iff.mp h).2
  simp [e3]

/-! ## the rules whose reading speaks of the written part, with it named (within a comprehension's block) -/
section
variable {X : Cx}
def rLen (K : PySem.W.Frag) : List V → Hp → VK → Prop := fun xs H Q => ∃ x n, xs = [x] ∧ LenV K x H n ∧ Q (.int (n : Nat)) H
def rListOf (K : PySem.W.Frag) : List V → Hp → VK → Prop := fun xs H Q => ∃ p ys, xs = [.ref p] ∧ (SqL K H p ys ∨ SqT K H p ys) ∧ ∀ l, H l = none → Q (.ref l) (upd H l (.lst ys))
def rTupOf (K : PySem.W.Frag) : List V → Hp → VK → Prop := fun xs H Q => ∃ p ys, xs = [.ref p] ∧ ((SqL K H p ys ∧ ∀ l, H l = none → Q (.ref l) (upd H l (.tup ys))) ∨ (SqT K H p ys ∧ Q (.ref p) H))
theorem kix (K : PySem.W.Frag) (h : X.K = K := by rfl) : IxR X (rIx K) := by subst h; exact ix_seq
theorem kixl (K : PySem.W.Frag) (h : X.K = K := by rfl) : IxR X (rIxL K) := by subst h; exact ix_list
theorem kixt (K : PySem.W.Frag) (h : X.K = K := by rfl) : IxR X (rIxT K) := by subst h; exact ix_tup
theorem klen (K : PySem.W.Frag) (h : X.K = K := by rfl) : CallR X (.builtin "len") (rLen K) := by subst h; exact call_len
theorem klist (K : PySem.W.Frag) (h : X.K = K := by rfl) : CallR X (.type "list") (rListOf K) := by subst h; exact call_list_of
theorem ktuple (K : PySem.W.Frag) (h : X.K = K := by rfl) : CallR X (.type "tuple") (rTupOf K) := by subst h; exact call_tuple_of
theorem kisi (K : PySem.W.Frag) (h : X.K = K := by rfl) : CallR X (.builtin "isinstance") (rIsi K) := by subst h; exact call_isi
theorem kisiT (K : PySem.W.Frag) (h : X.K = K := by rfl) : CallR X (.builtin "isinstance") (rIsiT K) := by subst h; exact call_isiT
theorem keqD (K : PySem.W.Frag) (hu : X.A.units + 64 < cLine) (h : X.K = K := by rfl) : OpR X (compareOp .Eq) (rEqD K) := by subst h; exact op_eqD hu
theorem kneD (K : PySem.W.Frag) (hu : X.A.units + 64 < cLine) (h : X.K = K := by rfl) : OpR X (compareOp .NotEq) (rNeD K) := by subst h; exact op_neD hu
theorem kin (K : PySem.W.Frag) (h : X.K = K := by rfl) : OpR X (compareOp .In) (rIn K false) := by subst h; exact op_in_seq
theorem knotin (K : PySem.W.Frag) (h : X.K = K := by rfl) : OpR X (compareOp .NotIn) (rIn K true) := by subst h; exact op_notIn_seq
theorem kcatA (K : PySem.W.Frag) (h : X.K = K := by rfl) : OpR X (binaryOp .Add) (rCatA K) := by subst h; exact op_catA
theorem krepA (K : PySem.W.Frag) (h : X.K = K := by rfl) : OpR X (binaryOp .Mult) (rRepA K) := by subst h; exact op_repA
theorem kslL (K : PySem.W.Frag) (h : X.K = K := by rfl) : SlR X (rSlL K) := by subst h; exact sl_list
theorem kslT (K : PySem.W.Frag) (h : X.K = K := by rfl) : SlR X (rSlA K) := by subst h; exact sl_tupA
theorem ksum (K : PySem.W.Frag) (hc : X.calm = true) (h : X.K = K := by rfl) : CallR X (.builtin "sum") (rSumS K) := by subst h; exact cr_sumS hc
theorem kall (K : PySem.W.Frag) (hc : X.calm = true) (h : X.K = K := by rfl) : CallR X (.builtin "all") (rAll K) := by subst h; exact cr_all hc
theorem kpil (K : PySem.W.Frag) {tg l : Expr} {tl : TE} (hl : PE X l tl) (h : X.K = K := by rfl) : PI X tg l (iList K tl) := by subst h; exact pi_list hl
theorem kpit (K : PySem.W.Frag) {tg l : Expr} {tl : TE} (hl : PE X l tl) (h : X.K = K := by rfl) : PI X tg l (iTup K tl) := by subst h; exact pi_tup hl
theorem kpis (K : PySem.W.Frag) {tg l : Expr} {tl : TE} (hl : PE X l tl) (h : X.K = K := by rfl) : PI X tg l (iSeq K tl) := by subst h; exact pi_seq hl
end

/-! ## own errors with one attribute -/
structure ErrAt (K : PySem.W.Frag) (mg : Str → Option Value) (x qi : Str) (st : Stmt) (f : Str) where
  C : Addr
  fI : Addr
  fd : FuncData
  F : Fun K "__init__" qi st fI fd
  b : Binds K fd ["self", f] []
  T : OexC K C
  iC : PySem.W.findIn K (.ref C) "__init__" = some (some (.ref fI))
  tI : PySem.W.typeIn K (.ref fI) = some (.type "function")
  gC : mg x = some (.ref C)
  nf : PySem.W.findIn K (.ref C) f = some none
  xf : XfC K C
def spInit (C : Addr) (f : Str) : Sp := fun vs H Q _ => ∃ (a : Addr) (y : V), vs = [.ref a, y] ∧ H a = some (exo a C none) ∧
  ∀ d, H d = none → d ≠ a → Q .non (upd (upd H d (exd d [(f, y)])) a (exo a C (some d)))
theorem raised {C a : Addr} {H : Hp} {f : Str} {y : V} {Q : XK} {E : XK} (ha : H a = none) (q : ∀ d H', Ex H H' → H' d = some (.xd [(f, y)]) → Q (.ref C) (some d) H') :
    spInit C f [.ref a, y] (upd H a (exo a C none)) (fun v H2 => v = .non ∧ ∃ (d : Addr) (fs : List (Str × V)), H2 a = some (exo a C (some d)) ∧ H2 d = some (exd d fs) ∧ H d = none ∧ Q (.ref C) (some d) (upd (del H2 a) d (.xd fs))) E := by
  refine ⟨a, y, rfl, upd_same, fun d hd nd => ⟨rfl, d, [(f, y)], upd_same, ?_, ?_, ?_⟩⟩
  · rw [upd_ne nd]; exact upd_same
  · rw [upd_ne nd] at hd; exact hd
  · rw [upd_ne nd] at hd
    refine q d _ (fun b o hb => ?_) upd_same
    have h1 : b ≠ a := ne_of_none hb ha
    have h2 : b ≠ d := ne_of_none hb hd
    rw [upd_ne h2, del_ne h1, upd_ne h1, upd_ne h2, upd_ne h1]
    exact hb
/-- a check: it lets what is right, else raises the error of C with the very value -/
def spChk (C : Addr) (ok : Int → Prop) : Sp := fun vs H Q E => ∃ i : Int, vs = [.int i] ∧ (ok i → ∀ H', Ex H H' → Q .non H') ∧
  (¬ ok i → ∀ d H', Ex H H' → H' d = some (.xd [("given", .int i)]) → E (.ref C) (some d) H')
end L2.U


set_option Elab.async false
set_option linter.all false
set_option maxRecDepth 100000
set_option maxHeartbeats 4000000
namespace L2.U
open PySem PySem.Spec PyProof.Rows Evl
def top (i : Nat) : Stmt := PySem.Challenge.pw_upforgood_k50_numbers_told_at_once.main.body.getD i (.Pass ⟨0, 0, 0, 0⟩)
abbrev s_is_integer : Stmt := top 2
theorem sc_is_integer : FnScope ["value"] ["value"] (defScope s_is_integer) := ⟨rfl, rfl, rfl, by decide +kernel, rfl, by decide +kernel, by decide +kernel⟩
abbrev s_is_between : Stmt := top 3
theorem sc_is_between : FnScope ["value", "low", "high"] ["value", "low", "high"] (defScope s_is_between) := ⟨rfl, rfl, rfl, by decide +kernel, rfl, by decide +kernel, by decide +kernel⟩
abbrev s_is_from : Stmt := top 4
theorem sc_is_from : FnScope ["value", "low"] ["value", "low"] (defScope s_is_from) := ⟨rfl, rfl, rfl, by decide +kernel, rfl, by decide +kernel, by decide +kernel⟩
abbrev s_is_list : Stmt := top 5
theorem sc_is_list : FnScope ["value"] ["value"] (defScope s_is_list) := ⟨rfl, rfl, rfl, by decide +kernel, rfl, by decide +kernel, by decide +kernel⟩
abbrev s_are_from : Stmt := top 6
theorem sc_are_from : FnScope ["values", "low", "value"] ["values", "low"] (defScope s_are_from) := ⟨rfl, rfl, rfl, by decide +kernel, rfl, by decide +kernel, by decide +kernel⟩
abbrev s_law_cell : Stmt := top 29
theorem sc_law_cell : FnScope ["script", "k"] ["script", "k"] (defScope s_law_cell) := ⟨rfl, rfl, rfl, by decide +kernel, rfl, by decide +kernel, by decide +kernel⟩
abbrev s_law_box : Stmt := top 30
theorem sc_law_box : FnScope ["great"] ["great"] (defScope s_law_box) := ⟨rfl, rfl, rfl, by decide +kernel, rfl, by decide +kernel, by decide +kernel⟩
abbrev s_law_take : Stmt := top 31
theorem sc_law_take : FnScope ["box", "many", "digit", "mixed"] ["box", "many"] (defScope s_law_take) := ⟨rfl, rfl, rfl, by decide +kernel, rfl, by decide +kernel, by decide +kernel⟩
abbrev s_law_same : Stmt := top 32
theorem sc_law_same : FnScope ["told", "due", "k"] ["told", "due"] (defScope s_law_same) := ⟨rfl, rfl, rfl, by decide +kernel, rfl, by decide +kernel, by decide +kernel⟩
structure TA1 (K : PySem.W.Frag) (mg : Str → Option Value) where
  is_integer : DefAt K mg "is_integer" s_is_integer ["value"]
  is_between : DefAt K mg "is_between" s_is_between ["value", "low", "high"]
  is_from : DefAt K mg "is_from" s_is_from ["value", "low"]
  is_list : DefAt K mg "is_list" s_is_list ["value"]
  are_from : DefAt K mg "are_from" s_are_from ["values", "low"]
  law_cell : DefAt K mg "_law_cell" s_law_cell ["script", "k"]
  law_box : DefAt K mg "_law_box" s_law_box ["great"]
  law_take : DefAt K mg "_law_take" s_law_take ["box", "many"]
  law_same : DefAt K mg "_law_same" s_law_same ["told", "due"]
  z_int : mg "int" = none
  z_bool : mg "bool" = none
  z_str : mg "str" = none
  z_list : mg "list" = none
  z_tuple : mg "tuple" = none
  z_len : mg "len" = none
  z_sum : mg "sum" = none
  z_abs : mg "abs" = none
  z_all : mg "all" = none
  z_range : mg "range" = none
  z_isinstance : mg "isinstance" = none
section
variable {P : Program} {w : World} {K : PySem.W.Frag} {mg : Str → Option Value} {base : Heap}
def isI : V → Bool
  | .int _ => true
  | _ => false
/-- a value of one of the kinds of data -/
def Dat (K : PySem.W.Frag) (H : Hp) (x : V) : Prop := ∃ t, t ∈ ["NoneType", "bool", "int", "str", "list", "tuple", "dict"] ∧ TyX K H x (.type t) ∧ isI x = decide (t = "int")
theorem Dat.int {H : Hp} {i : Int} : Dat K H (.int i) := ⟨"int", by decide, .base (.int i), rfl⟩
theorem Dat.ex {H H' : Hp} {x : V} (e : Ex H H') (h : Dat K H x) : Dat K H' x := by
  obtain ⟨t, ht, ty, hi⟩ := h
  refine ⟨t, ht, ?_, hi⟩
  cases ty with
  | base b =>
    refine .base ?_
    cases b with
    | non => exact .non
    | bl x => exact .bl x
    | int i => exact .int i
    | str z => exact .str z
    | flt z => exact .flt z
    | lst h => exact .lst (e _ _ h)
    | frz h => exact .frz (e _ _ h)
    | tup h => exact .tup (e _ _ h)
    | dK h => exact .dK (e _ _ h)
    | dT h => exact .dT (e _ _ h)
  | byt b => exact .byt b
  | set h => exact .set (e _ _ h)
  | kList a b => exact .kList a b
  | kTuple a b => exact .kTuple a b
  | kDict a b => exact .kDict a b
  | fTuple h => exact .fTuple (e _ _ h)
  | fDict h => exact .fDict (e _ _ h)
def spIsInteger (K : PySem.W.Frag) : Sp := fun vs H Q _ => ∃ x, vs = [x] ∧ Dat K H x ∧ Q (.bl (isI x)) H
theorem ok_is_integer (T : TA1 K mg) : FnOk P w K mg base CX0 1 T.is_integer.a T.is_integer.fd ["value"] (spIsInteger K) := by
  refine T.is_integer.F.ok sc_is_integer (fun vs H Q E h => ?_) (fun cdv A outer s H vs Q E hr h => ?_)
  · obtain ⟨x, rfl, _⟩ := h; rfl
  obtain ⟨x, rfl, ⟨t, ht, ty, hi⟩, q⟩ := h
  refine ⟨_, (pss_one (ps_ret (pe_and (pe_callB (kisi K) (by rfl) T.z_isinstance (by decide +kernel) (pa_cons (pv 0) (pa_cons (pe_bltn (v := .ty "int") rfl T.z_int (by decide +kernel) rfl) pa_nil))) (pe_one (pe_not (pe_callB (kisi K) (by rfl) T.z_isinstance (by decide +kernel) (pa_cons (pv 0) (pa_cons (pe_bltn (v := .ty "bool") rfl T.z_bool (by decide +kernel) rfl) pa_nil)))))))), ?_⟩
  simp only [List.mem_cons, List.not_mem_nil, or_false] at ht
  rcases ht with rfl | rfl | rfl | rfl | rfl | rfl | rfl
  · refine ⟨_, rfl, _, _, _, _, _, rfl, .ty "int", ty, kit_ty (r := false) (by decide +kernel), false, rfl, iteF ?_⟩
    rw [hi] at q; exact q
  · refine ⟨_, rfl, _, _, _, _, _, rfl, .ty "int", ty, kit_ty (r := true) (by decide +kernel), true, rfl, iteT ?_⟩
    refine ⟨_, rfl, _, _, _, _, _, rfl, .ty "bool", ty, kit_ty (r := true) (by decide +kernel), true, rfl, ?_⟩
    rw [hi] at q; exact q
  · refine ⟨_, rfl, _, _, _, _, _, rfl, .ty "int", ty, kit_ty (r := true) (by decide +kernel), true, rfl, iteT ?_⟩
    refine ⟨_, rfl, _, _, _, _, _, rfl, .ty "bool", ty, kit_ty (r := false) (by decide +kernel), false, rfl, ?_⟩
    rw [hi] at q; exact q
  all_goals
    refine ⟨_, rfl, _, _, _, _, _, rfl, .ty "int", ty, kit_ty (r := false) (by decide +kernel), false, rfl, iteF ?_⟩
    rw [hi] at q; exact q
def spIsFrom (K : PySem.W.Frag) : Sp := fun vs H Q _ => ∃ (x : V) (lo : Int), vs = [x, .int lo] ∧ Dat K H x ∧ ∀ b, (∀ i, x = .int i → b = decide (lo ≤ i)) → (isI x = false → b = false) → Q (.bl b) H
theorem isI_int {x : V} (h : isI x = true) : ∃ i, x = .int i := by
  cases x <;> first | exact ⟨_, rfl⟩ | cases h
theorem ok_is_from (T : TA1 K mg) : FnOk P w K mg base CX0 2 T.is_from.a T.is_from.fd ["value", "low"] (spIsFrom K) := by
  refine T.is_from.F.ok sc_is_from (fun vs H Q E h => ?_) (fun cdv A outer s H vs Q E hr h => ?_)
  · obtain ⟨x, lo, rfl, _⟩ := h; rfl
  obtain ⟨x, lo, rfl, hd, q⟩ := h
  refine ⟨_, (pss_one (ps_ret (pe_and (pe_call (ok_is_integer T) (hr.mono (by decide)) rfl T.is_integer.m T.is_integer.F.kp T.is_integer.b .nil pass0 (pa_cons (pv 0) pa_nil)) (pe_one (pe_cmpR op_le (pv 1) (pv 0) (nomark _)))))), ?_⟩
  refine ⟨_, rfl, _, rfl, hd, isI x, rfl, ?_⟩
  cases hx : isI x with
  | false => exact q false (fun i e => by rw [e] at hx; cases hx) (fun _ => rfl)
  | true =>
    obtain ⟨i, rfl⟩ := isI_int hx
    refine ⟨_, rfl, _, rfl, _, _, rfl, rfl, q _ (fun j e => by cases e; rfl) (fun e => by cases e)⟩
def spIsBetween (K : PySem.W.Frag) : Sp := fun vs H Q _ => ∃ (x : V) (lo hi : Int), vs = [x, .int lo, .int hi] ∧ Dat K H x ∧ ∀ b, (∀ i, x = .int i → b = decide (lo ≤ i ∧ i ≤ hi)) → (isI x = false → b = false) → Q (.bl b) H
theorem ok_is_between (T : TA1 K mg) : FnOk P w K mg base CX0 2 T.is_between.a T.is_between.fd ["value", "low", "high"] (spIsBetween K) := by
  refine T.is_between.F.ok sc_is_between (fun vs H Q E h => ?_) (fun cdv A outer s H vs Q E hr h => ?_)
  · obtain ⟨x, lo, hi, rfl, _⟩ := h; rfl
  obtain ⟨x, lo, hi, rfl, hd, q⟩ := h
  refine ⟨_, (pss_one (ps_ret (pe_and (pe_call (ok_is_integer T) (hr.mono (by decide)) rfl T.is_integer.m T.is_integer.F.kp T.is_integer.b .nil pass0 (pa_cons (pv 0) pa_nil)) (pe_one (pe_chain op_le op_le (pv 1) (pv 0) (pv 2)))))), ?_⟩
  refine ⟨_, rfl, _, rfl, hd, isI x, rfl, ?_⟩
  cases hx : isI x with
  | false => exact q false (fun i e => by rw [e] at hx; cases hx) (fun _ => rfl)
  | true =>
    obtain ⟨i, rfl⟩ := isI_int hx
    refine ⟨_, rfl, _, rfl, _, _, rfl, rfl, _, rfl, ite2 (fun c => ?_) (fun c => ?_)⟩
    · refine ⟨_, rfl, _, _, rfl, rfl, q _ (fun j e => ?_) (fun e => by cases e)⟩
      cases e
      have c' := of_decide_eq_true c
      simp [c']
    · refine q _ (fun j e => ?_) (fun e => by cases e)
      cases e
      have c' := of_decide_eq_false (Bool.eq_false_iff.mpr c)
      simp [c']
/-! ### data: what a value holds -/
inductive Rd (K : PySem.W.Frag) (ok : Addr → Prop) (H : Hp) : Nat → V → PyData → Prop
  | non {n} : Rd K ok H n .non .none
  | bl {n} (b : Bool) : Rd K ok H n (.bl b) (.bool b)
  | int {n} (i : Int) : Rd K ok H n (.int i) (.int i)
  | str {n} (z : Str) (h : z.length ≤ 1000) (h2 : PyData.strOk z = true) : Rd K ok H n (.str z) (.str z)
  | lst {n} {a : Addr} {xs : List V} {ds : List PyData} (h : H a = some (.lst xs)) (ha : ok a) (hl : xs.length = ds.length) (hz : xs.length ≤ 900)
      (all : ∀ (i : Nat) (x : V) (d : PyData), xs[i]? = some x → ds[i]? = some d → Rd K ok H n x d) : Rd K ok H (n + 1) (.ref a) (.list ds)
  | tup {n} {a : Addr} {xs : List V} {ds : List PyData} (h : SqT K H a xs) (ha : ok a) (hl : xs.length = ds.length) (hz : xs.length ≤ 900)
      (all : ∀ (i : Nat) (x : V) (d : PyData), xs[i]? = some x → ds[i]? = some d → Rd K ok H n x d) : Rd K ok H (n + 1) (.ref a) (.tuple ds)
def RdL (K : PySem.W.Frag) (ok : Addr → Prop) (H : Hp) (n : Nat) (xs : List V) (ds : List PyData) : Prop :=
  xs.length = ds.length ∧ ∀ (i : Nat) (x : V) (d : PyData), xs[i]? = some x → ds[i]? = some d → Rd K ok H n x d
section
variable {ok : Addr → Prop} {H H' : Hp} {n : Nat} {x y : V} {d : PyData}
theorem Rd.keep (kl : ∀ a xs, ok a → H a = some (.lst xs) → H' a = some (.lst xs)) (kt : ∀ a xs, ok a → SqT K H a xs → SqT K H' a xs) (h : Rd K ok H n x d) : Rd K ok H' n x d := by
  induction h with
  | non => exact .non
  | bl b => exact .bl b
  | int i => exact .int i
  | str z h h2 => exact .str z h h2
  | lst h1 ha hl hz _ ih => exact .lst (kl _ _ ha h1) ha hl hz ih
  | tup h1 ha hl hz _ ih => exact .tup (kt _ _ ha h1) ha hl hz ih
theorem Rd.ex (e : Ex H H') (h : Rd K ok H n x d) : Rd K ok H' n x d := h.keep (fun _ _ _ => e _ _) (fun _ _ _ => ex_t e)
theorem Rd.but {b : Addr} (k : But b H H') (hb : ∀ a, ok a → a ≠ b) (h : Rd K ok H n x d) : Rd K ok H' n x d :=
  h.keep (fun _ _ ha hs => k _ _ (hb _ ha) hs) (fun _ _ ha hs => k.sqt (hb _ ha) hs)
theorem Rd.of {ok' : Addr → Prop} (w : ∀ a, ok a → ok' a) (h : Rd K ok H n x d) : Rd K ok' H n x d := by
  induction h with
  | non => exact .non
  | bl b => exact .bl b
  | int i => exact .int i
  | str z h h2 => exact .str z h h2
  | lst h1 ha hl hz _ ih => exact .lst h1 (w _ ha) hl hz ih
  | tup h1 ha hl hz _ ih => exact .tup h1 (w _ ha) hl hz ih
theorem Rd.succ (h : Rd K ok H n x d) : Rd K ok H (n + 1) x d := by
  induction h with
  | non => exact .non
  | bl b => exact .bl b
  | int i => exact .int i
  | str z h h2 => exact .str z h h2
  | lst h1 ha hl hz _ ih => exact .lst h1 ha hl hz ih
  | tup h1 ha hl hz _ ih => exact .tup h1 ha hl hz ih
theorem Rd.le {m : Nat} (h : Rd K ok H n x d) (l : n ≤ m) : Rd K ok H m x d := by
  induction l with
  | refl => exact h
  | step _ ih => exact ih.succ
theorem RdL.ex {xs : List V} {ds : List PyData} (e : Ex H H') (h : RdL K ok H n xs ds) : RdL K ok H' n xs ds := ⟨h.1, fun i x d hx hd => (h.2 i x d hx hd).ex e⟩
theorem RdL.but {b : Addr} {xs : List V} {ds : List PyData} (k : But b H H') (hb : ∀ a, ok a → a ≠ b) (h : RdL K ok H n xs ds) : RdL K ok H' n xs ds := ⟨h.1, fun i x d hx hd => (h.2 i x d hx hd).but k hb⟩
theorem Rd.sm (h : Rd K ok H n x d) : ∀ {ok' : Addr → Prop} {y : V}, Rd K ok' H n y d → Sm K H n x y := by
  induction h with
  | non => intro ok' y h2; cases h2; exact .non
  | bl b => intro ok' y h2; cases h2; exact .bl b
  | int i => intro ok' y h2; cases h2; exact .int i
  | str z h h3 => intro ok' y h2; cases h2; exact .str z h
  | lst h1 ha hl hz all ih =>
    intro ok' y h2
    cases h2 with
    | lst h1' ha' hl' hz' all' =>
      refine .lst (SqL.of h1) (SqL.of h1') (by omega) (by omega) fun i x y hx hy => ?_
      have hi := (List.getElem?_eq_some_iff.mp hx).1
      exact ih i x _ hx (List.getElem?_eq_getElem (by omega)) (all' i y _ hy (List.getElem?_eq_getElem (by omega)))
  | tup h1 ha hl hz all ih =>
    intro ok' y h2
    cases h2 with
    | tup h1' ha' hl' hz' all' =>
      refine .tup h1 h1' (by omega) (by omega) fun i x y hx hy => ?_
      have hi := (List.getElem?_eq_some_iff.mp hx).1
      exact ih i x _ hx (List.getElem?_eq_getElem (by omega)) (all' i y _ hy (List.getElem?_eq_getElem (by omega)))
theorem dpAll_of {xs : List V} : ∀ {ds : List PyData}, xs.length = ds.length → (∀ (i : Nat) (x : V) (d : PyData), xs[i]? = some x → ds[i]? = some d → Dp K H x d) → DpAll K H xs ds := by
  induction xs with
  | nil => intro ds hl _; cases ds with
    | nil => exact .nil
    | cons d r => cases hl
  | cons x r ih => intro ds hl h; cases ds with
    | nil => cases hl
    | cons d r2 => exact .cons (h 0 x d rfl rfl) (ih (Nat.succ.inj hl) fun i x d hx hd => h (i + 1) x d hx hd)
theorem Rd.dp (h : Rd K ok H n x d) : Dp K H x d := by
  induction h with
  | non => exact .non
  | bl b => exact .bl b
  | int i => exact .int i
  | str z h h2 => exact .str z
  | lst h1 ha hl hz _ ih => exact .lst (SqL.of h1) (dpAll_of hl ih)
  | tup h1 ha hl hz _ ih => exact .tup h1 (dpAll_of hl ih)
theorem layAll_of : ∀ {ds : List PyData} {n : Nat}, (∀ d ∈ ds, d.canLay0 = true ∧ d.depth ≤ n) → PyData.canLayAll0 ds = true ∧ PyData.depthAll ds ≤ n
  | [], n, _ => by simp [PyData.canLayAll0, PyData.depthAll]
  | d :: r, n, h => by
    have h1 := h d (by simp)
    have h2 := layAll_of (ds := r) (n := n) fun z hz => h z (by simp [hz])
    simp only [PyData.canLayAll0, PyData.depthAll, h1.1, h2.1, Bool.and_self, true_and]
    omega
theorem Rd.lay (h : Rd K ok H n x d) : d.canLay0 = true ∧ d.depth ≤ n := by
  induction h with
  | non => simp [PyData.canLay0, PyData.depth]
  | bl b => simp [PyData.canLay0, PyData.depth]
  | int i => simp [PyData.canLay0, PyData.depth]
  | str z h h2 => simp [PyData.canLay0, PyData.depth, h2]
  | @lst n a xs ds h1 ha hl hz all ih =>
    have := layAll_of (ds := ds) (n := n) fun d hd => by
      obtain ⟨i, hi⟩ := List.mem_iff_getElem?.mp hd
      have hlt := (List.getElem?_eq_some_iff.mp hi).1
      exact ih i _ d (List.getElem?_eq_getElem (by omega)) hi
    simp only [PyData.canLay0, PyData.depth, this.1, true_and]
    omega
  | @tup n a xs ds h1 ha hl hz all ih =>
    have := layAll_of (ds := ds) (n := n) fun d hd => by
      obtain ⟨i, hi⟩ := List.mem_iff_getElem?.mp hd
      have hlt := (List.getElem?_eq_some_iff.mp hi).1
      exact ih i _ d (List.getElem?_eq_getElem (by omega)) hi
    simp only [PyData.canLay0, PyData.depth, this.1, true_and]
    omega
theorem Rd.shaped (h : Rd K ok H n x d) (hn : n ≤ 64) : SeqAt.shaped d = true := by
  have := h.lay
  unfold SeqAt.shaped
  rw [this.1, decide_eq_true (by omega)]
  rfl
theorem Rd.dat (h : Rd K ok H n x d) : Dat K H x := by
  cases h with
  | non => exact ⟨"NoneType", by decide, .base .non, rfl⟩
  | bl b => exact ⟨"bool", by decide, .base (.bl b), rfl⟩
  | int i => exact .int
  | str z h h2 => exact ⟨"str", by decide, .base (.str z), rfl⟩
  | lst h1 => exact ⟨"list", by decide, tyL (SqL.of h1), rfl⟩
  | tup h1 => exact ⟨"tuple", by decide, tyT h1, rfl⟩
end
def fromD (lo : Int) : PyData → Bool
  | .int i => decide (lo ≤ i)
  | _ => false
def betwD (lo hi : Int) : PyData → Bool
  | .int i => decide (lo ≤ i ∧ i ≤ hi)
  | _ => false
def isSeq : PyData → Bool
  | .list _ => true
  | .tuple _ => true
  | _ => false
theorem rd_from {ok : Addr → Prop} {H : Hp} {n : Nat} {x : V} {d : PyData} {lo : Int} {b : Bool} (h : Rd K ok H n x d) (h1 : ∀ i, x = .int i → b = decide (lo ≤ i)) (h2 : isI x = false → b = false) : b = fromD lo d := by
  cases h <;> first | exact h1 _ rfl | exact h2 rfl
theorem rd_betw {ok : Addr → Prop} {H : Hp} {n : Nat} {x : V} {d : PyData} {lo hi : Int} {b : Bool} (h : Rd K ok H n x d) (h1 : ∀ i, x = .int i → b = decide (lo ≤ i ∧ i ≤ hi)) (h2 : isI x = false → b = false) : b = betwD lo hi d := by
  cases h <;> first | exact h1 _ rfl | exact h2 rfl
def spIsList (K : PySem.W.Frag) : Sp := fun vs H Q _ => ∃ x d n ok, vs = [x] ∧ Rd K ok H n x d ∧ ∀ H', Ex H H' → Q (.bl (isSeq d)) H'
theorem ok_is_list (T : TA1 K mg) : FnOk P w K mg base CX0 1 T.is_list.a T.is_list.fd ["value"] (spIsList K) := by
  refine T.is_list.F.ok sc_is_list (fun vs H Q E h => ?_) (fun cdv A outer s H vs Q E hr h => ?_)
  · obtain ⟨x, d, n, ok, rfl, _⟩ := h; rfl
  obtain ⟨x, d, n, ok, rfl, h, q⟩ := h
  refine ⟨_, (pss_one (ps_ret (pe_callB (kisiT K) (by rfl) T.z_isinstance (by decide +kernel) (pa_cons (pv 0) (pa_cons (pe_tup (pa_cons (pe_bltn (v := .ty "list") rfl T.z_list (by decide +kernel) rfl) (pa_cons (pe_bltn (v := .ty "tuple") rfl T.z_tuple (by decide +kernel) rfl) pa_nil))) pa_nil))))), ?_⟩
  refine ⟨_, rfl, (by show 2 ≤ sizeLine; decide), fun p hp => ?_⟩
  have q1 := q _ (Ex.new (o := .tup [.ty "list", .ty "tuple"]) hp)
  cases h with
  | non => exact ⟨_, p, [.ty "list", .ty "tuple"], _, [.type "list", .type "tuple"], false, rfl, upd_same, .cons (.ty _) (.cons (.ty _) .nil), .base .non, rfl, q1⟩
  | bl b => exact ⟨_, p, [.ty "list", .ty "tuple"], _, [.type "list", .type "tuple"], false, rfl, upd_same, .cons (.ty _) (.cons (.ty _) .nil), .base (.bl b), rfl, q1⟩
  | int i => exact ⟨_, p, [.ty "list", .ty "tuple"], _, [.type "list", .type "tuple"], false, rfl, upd_same, .cons (.ty _) (.cons (.ty _) .nil), .base (.int i), rfl, q1⟩
  | str z _ _ => exact ⟨_, p, [.ty "list", .ty "tuple"], _, [.type "list", .type "tuple"], false, rfl, upd_same, .cons (.ty _) (.cons (.ty _) .nil), .base (.str z), rfl, q1⟩
  | lst h1 => exact ⟨_, p, [.ty "list", .ty "tuple"], _, [.type "list", .type "tuple"], true, rfl, upd_same, .cons (.ty _) (.cons (.ty _) .nil), tyL (SqL.of ((Ex.new hp) _ _ h1)), rfl, q1⟩
  | tup h1 => exact ⟨_, p, [.ty "list", .ty "tuple"], _, [.type "list", .type "tuple"], true, rfl, upd_same, .cons (.ty _) (.cons (.ty _) .nil), tyT (ex_t (Ex.new hp) h1), rfl, q1⟩
theorem at_get {xs : List V} {k : Int} (h0 : 0 ≤ k) (h : k < (xs.length : Int)) : ∃ v, atI xs k = some v ∧ xs[k.toNat]? = some v := by
  have hk : k.toNat < xs.length := by omega
  refine ⟨xs[k.toNat], ?_, List.getElem?_eq_getElem hk⟩
  exact at_of (by omega) (List.getElem?_eq_getElem hk)
theorem ints_get {ns : List Int} {i : Nat} {v : V} (h : (ns.map V.int)[i]? = some v) : ∃ z, ns[i]? = some z ∧ v = .int z := by
  rw [List.getElem?_map] at h
  cases e : ns[i]? with
  | none => rw [e] at h; cases h
  | some z => rw [e] at h; exact ⟨z, rfl, (Option.some.inj h).symm⟩
theorem cutV_ints (ns : List Int) (lo hi : Option Int) : ∃ ms : List Int, cutV (ns.map V.int) lo hi = ms.map V.int := by
  refine ⟨(ns.drop (HT.sIx (ns.map V.int).length 0 lo)).take (HT.sIx (ns.map V.int).length (ns.map V.int).length hi - HT.sIx (ns.map V.int).length 0 lo), ?_⟩
  unfold cutV
  rw [List.map_take, List.map_drop]
theorem ok_law_cell (T : TA1 K mg) : FnOk P w K mg base CX0 1 T.law_cell.a T.law_cell.fd ["script", "k"] (spCell K) := by
  refine T.law_cell.F.ok sc_law_cell (fun vs H Q E h => ?_) (fun cdv A outer s H vs Q E hr h => ?_)
  · obtain ⟨a, ns, k, rfl, _⟩ := h; rfl
  obtain ⟨a, ns, k, rfl, hS, h0, h1, q⟩ := h
  refine ⟨_, (pss_one (ps_ret (pe_ifExp (pt_cmpR op_lt (pv 1) (pe_callB (klen K) (by rfl) T.z_len (by decide +kernel) (pa_cons (pv 0) pa_nil)) (nomark _)) (pe_ix (kixl K) (pv 0) (pv 1) (fun _ _ => rfl)) (pe_op op_add (pe_op op_mul pe_int (pv 1)) (pe_op op_mod (pe_callTy call_int1 (by rfl) T.z_int (by decide +kernel) (pa_cons (pe_callB (ksum K rfl) (by rfl) T.z_sum (by decide +kernel) (pa_cons (pe_slice (kslL K) (pv 0) po_none (po_some pe_int)) pa_nil)) pa_nil)) pe_int))))), ?_⟩
  refine ⟨_, rfl, _, rfl, _, _, rfl, .inl ⟨_, hS, rfl⟩, _, _, rfl, rfl, _, rfl, ite2 (fun c => ?_) (fun c => ?_)⟩
  · have c' := of_decide_eq_true c
    obtain ⟨v, hv, hg⟩ := at_get h0 c'
    obtain ⟨z, _, rfl⟩ := ints_get hg
    exact ⟨_, rfl, _, rfl, _, _, _, _, rfl, rfl, hS, hv, q _ _ (Ex.refl _)⟩
  · refine ⟨_, rfl, _, _, rfl, rfl, .inl ⟨by decide, by decide⟩, _, rfl, _, rfl, _, _, rfl, hS, fun p hp => ?_⟩
    obtain ⟨ms, em⟩ := cutV_ints ns none (some 1)
    rw [em]
    refine ⟨p, ms, rfl, .inl (SqL.of upd_same), .inl ⟨_, rfl, _, _, rfl, rfl, (show (0 : Int) < 1000033 by decide), _, _, rfl, rfl, q _ _ (Ex.new hp)⟩⟩
theorem ok_law_box (T : TA1 K mg) : FnOk P w K mg base CX0 1 T.law_box.a T.law_box.fd ["great"] spBox := by
  refine T.law_box.F.ok sc_law_box (fun vs H Q E h => ?_) (fun cdv A outer s H vs Q E hr h => ?_)
  · obtain ⟨g, rfl, _⟩ := h; rfl
  obtain ⟨g, rfl, q⟩ := h
  refine ⟨_, (pss_one (ps_ret (pe_lst (pa_cons (pe_callB call_abs (by rfl) T.z_abs (by decide +kernel) (pa_cons (pv 0) pa_nil)) (pa_cons (pe_cmpR op_ge (pe_callB call_abs (by rfl) T.z_abs (by decide +kernel) (pa_cons (pv 0) pa_nil)) (pe_op op_pow pe_int pe_int) (nomark _)) (pa_cons (pe_op op_mod (pe_callTy call_int1 (by rfl) T.z_int (by decide +kernel) (pa_cons (pe_callB call_abs (by rfl) T.z_abs (by decide +kernel) (pa_cons (pv 0) pa_nil)) pa_nil)) pe_int) (pa_cons pe_int pa_nil))))))), ?_⟩
  refine ⟨_, rfl, _, rfl, _, rfl, _, rfl, _, _, rfl, rfl, ⟨by decide, by decide, by decide⟩, _, _, rfl, rfl, _, rfl, _, rfl, .inl ⟨_, rfl, _, _, rfl, rfl, (show (0 : Int) < 2147483629 by decide), (by show 4 ≤ sizeLine; decide), fun p hp => ?_⟩⟩
  refine q p _ hp (Ex.new hp) ⟨_, _, _, _, upd_same, ?_, ?_, ?_, by decide, by decide⟩
  · split <;> omega
  · omega
  · omega
theorem fmod_in {a m : Int} (h : 0 < m) : 0 ≤ a % m ∧ a % m < m := by
  exact ⟨Int.emod_nonneg _ (by omega), Int.emod_lt_of_pos _ h⟩
theorem ok_law_take (T : TA1 K mg) : FnOk P w K mg base CX0 1 T.law_take.a T.law_take.fd ["box", "many"] spTake := by
  refine T.law_take.F.ok sc_law_take (fun vs H Q E h => ?_) (fun cdv A outer s H vs Q E hr h => ?_)
  · obtain ⟨b, m, n, rfl, _⟩ := h; rfl
  obtain ⟨b, m, n, rfl, m0, m1, ⟨d, sd, c, f, hb, d0, s0, s1, c0, c1⟩, q⟩ := h
  have hL := SqL.of (K := K) hb
  refine ⟨_, (pss_cut (ps_if (PW.pt (pw_and (pt_val (pe_ix (kixl K) (pv 0) pe_int (fun _ _ => rfl))) (pw_and1 (pt_cmpR op_gt (pe_ix (kixl K) (pv 0) pe_int (fun _ _ => rfl)) pe_int (nomark _))))) (pss_cons (ps_set (i := 2) sc_law_take.nd rfl (Or.inl rfl) (pe_op op_mod (pe_callTy call_int1 (by rfl) T.z_int (by decide +kernel) (pa_cons (pe_ix (kixl K) (pv 0) pe_int (fun _ _ => rfl)) pa_nil)) (pv 1)))
    (pss_cons (ps_asg (pe_op op_fdiv (pe_ix (kixl K) (pv 0) pe_int (fun _ _ => rfl)) (pv 1)) (pg_sub (pv 0) pe_int set_list))
    (pss_one (ps_ret (pv 2))))) pss_nil)
    (pss_cons (ps_asg (pe_op op_add (pe_ix (kixl K) (pv 0) pe_int (fun _ _ => rfl)) pe_int) (pg_sub (pv 0) pe_int set_list))
    (pss_cons (ps_set (i := 3) sc_law_take.nd rfl (Or.inl rfl) (pe_op op_mod (pe_callTy call_int1 (by rfl) T.z_int (by decide +kernel) (pa_cons (pe_op op_pow (pe_op op_add (pe_op op_add (pe_ix (kixl K) (pv 0) pe_int (fun _ _ => rfl)) (pe_op op_mul pe_int (pe_ix (kixl K) (pv 0) pe_int (fun _ _ => rfl)))) pe_int) pe_int) pa_nil)) pe_int))
    (pss_one (ps_ret (pe_op op_mod (pe_callTy call_int1 (by rfl) T.z_int (by decide +kernel) (pa_cons (pe_op op_fdiv (pe_op op_mod (pe_callTy call_int1 (by rfl) T.z_int (by decide +kernel) (pa_cons (pe_op op_pow (pe_op op_add (pe_op op_mul (pv 3) pe_int) (pe_op op_mul pe_int (pe_ix (kixl K) (pv 0) pe_int (fun _ _ => rfl)))) pe_int) pa_nil)) pe_int) pe_int) pa_nil)) (pv 1))))))), ?_⟩
  have mres : ∀ x : Int, 0 ≤ x % m ∧ x % m < m := fun x => fmod_in m0
  have fm : ∀ {a k : Int}, 0 ≤ a → 0 < k → 0 ≤ a % k ∧ a % k < k := fun _ h => fmod_in h
  refine ⟨fun σ' H' => σ' = [some (.ref b), some (.int m), none, none] ∧ H' = H, ?_, ?_⟩
  · refine ⟨_, rfl, _, _, _, _, rfl, rfl, hL, rfl, f, rfl, ?_⟩
    cases f with
    | false => exact ⟨rfl, rfl⟩
    | true =>
      refine ⟨_, rfl, _, _, _, _, rfl, rfl, hL, rfl, _, _, rfl, rfl, _, rfl, ite2 (fun c => ?_) (fun _ => ⟨rfl, rfl⟩)⟩
      refine ⟨_, rfl, _, _, _, _, rfl, rfl, hL, rfl, .inl ⟨_, rfl, _, rfl, _, _, rfl, rfl, m0, ?_⟩⟩
      refine ⟨_, rfl, _, _, _, _, rfl, rfl, hL, rfl, _, rfl, _, _, rfl, rfl, ⟨by omega, by omega⟩, ?_⟩
      refine ⟨_, rfl, b, _, 0, 0, rfl, rfl, hb, rfl, ?_⟩
      refine ⟨_, rfl, q _ _ (mres _).1 (mres _).2 ⟨_, _, _, _, upd_same, ?_, s0, s1, c0, by omega⟩ But.upd⟩
      exact Int.ediv_nonneg d0 (by omega)
  · rintro σ' H' ⟨rfl, rfl⟩
    refine ⟨_, rfl, _, _, _, _, rfl, rfl, hL, rfl, _, _, rfl, rfl, ?_⟩
    refine ⟨_, rfl, b, _, 3, 3, rfl, rfl, hb, rfl, ?_⟩
    have hb2 : upd H' b (.lst [.int d, .bl f, .int sd, .int (c + 1)]) b = some (.lst [.int d, .bl f, .int sd, .int (c + 1)]) := upd_same
    have hL2 := SqL.of (K := K) hb2
    have r1 := @fmod_in ((sd + 15485863 * (c + 1) + 179424673) ^ (5 : Int).toNat) 2147483647 (by decide)
    refine ⟨_, rfl, _, _, _, _, rfl, rfl, hL2, rfl, ?_⟩
    refine ⟨_, rfl, _, _, _, _, rfl, rfl, hL2, rfl, _, _, rfl, rfl, .inl ⟨by decide, by decide⟩, _, _, rfl, rfl, _, _, rfl, rfl, ?_⟩
    refine ⟨_, _, rfl, rfl, ⟨by decide, by decide, by omega⟩, .inl ⟨_, rfl, _, _, rfl, rfl, (show (0 : Int) < 2147483647 by decide), ?_⟩⟩
    refine ⟨_, rfl, _, _, rfl, rfl, .inr ⟨by decide, by decide⟩, ?_⟩
    refine ⟨_, rfl, _, _, _, _, rfl, rfl, hL2, rfl, _, _, rfl, rfl, .inl ⟨by decide, by decide⟩, _, _, rfl, rfl, ?_⟩
    refine ⟨_, _, rfl, rfl, ⟨by decide, by decide, by omega⟩, .inl ⟨_, rfl, _, _, rfl, rfl, (show (0 : Int) < 2147483587 by decide), ?_⟩⟩
    refine ⟨_, _, rfl, rfl, ⟨by decide, by decide⟩, .inl ⟨_, rfl, _, rfl, _, _, rfl, rfl, m0, ?_⟩⟩
    exact q _ _ (mres _).1 (mres _).2 ⟨_, _, _, _, hb2, d0, s0, s1, by omega, by omega⟩ But.upd
/-! ### the law's own sameness -/
theorem none_left {sp : Sp} {f : Addr} {fd : FuncData} {ps : List Str} (no : ∀ vs H Q E, ¬ sp vs H Q E) : FnOk P w K mg base CX0 0 f fd ps sp :=
  ⟨fun vs H Q E h => absurd h (no vs H Q E), fun A outer s H args us vs Q E _ _ _ _ h => absurd h (no vs H Q E)⟩
theorem isi_at {H : Hp} {x : V} {t u : String} {b : Bool} {Q : VK} (ty : TyX K H x (.type t)) (h : kitB t u = some b) (q : Q (.bl b) H) : rIsi K [x, .ty u] H Q :=
  ⟨x, .ty u, _, _, b, rfl, .ty u, ty, kit_ty h, q⟩
def spS (K : PySem.W.Frag) : Nat → Sp
  | 0 => fun _ _ _ _ => False
  | n + 1 => spSame K n
theorem no_given {n : Nat} {v : Nat → V} : given n (fun _ => false) v = [] := by
  unfold given
  rw [List.filter_eq_nil_iff.mpr (by intro a _; decide)]
  rfl
theorem eq_empty {ta : TE} {σ : L2.St} {H : Hp} {xs : List V} (hx : xs = []) (h : EvL ta σ H xs) : Ev (tOp (rEqD K) ta (tLst tNil)) σ H (.bl true) := by
  subst hx
  exact ev_opLL h (el_lst ea_nil (Nat.zero_le _)) fun p q H1 hp hq _ => rv_val fun H2 e2 Q k =>
    ⟨.list [], .list [], .lst (SqL.of (e2 _ _ hp)) .nil, .lst (SqL.of (e2 _ _ hq)) .nil, rfl, rfl, k⟩
theorem same_step (T : TA1 K mg) (n : Nat) (ih : FnOk P w K mg base CX0 n T.law_same.a T.law_same.fd ["told", "due"] (spS K n)) :
    FnOk P w K mg base CX0 (n + 1) T.law_same.a T.law_same.fd ["told", "due"] (spS K (n + 1)) := by
  refine T.law_same.F.ok sc_law_same (fun vs H Q E h => ?_) (fun cdv A outer s H vs Q E hr h => ?_)
  · obtain ⟨x, y, rfl, _⟩ := h; rfl
  obtain ⟨x, y, rfl, hS, q⟩ := h
  refine ⟨_, (pss_cons (ps_if (PW.pt (pw_or (pt_cmpR op_isN (pv 1) pe_non (nomark _)) (pw_or1 (pt_val (pe_callB (kisi K) (by rfl) T.z_isinstance (by decide +kernel) (pa_cons (pv 1) (pa_cons (pe_bltn (v := .ty "bool") rfl T.z_bool (by decide +kernel) rfl) pa_nil))))))) (pss_one (ps_ret (pe_ifExp (pt_cmpR op_isN (pv 1) pe_non (nomark _)) (pe_cmpR op_isN (pv 0) pe_non (nomark _)) (pe_and (pe_callB (kisi K) (by rfl) T.z_isinstance (by decide +kernel) (pa_cons (pv 0) (pa_cons (pe_bltn (v := .ty "bool") rfl T.z_bool (by decide +kernel) rfl) pa_nil))) (pe_one (pe_cmpR op_eq (pe_cmpR op_is_bl (pv 0) pe_bl (nomark _)) (pe_cmpR op_is_bl (pv 1) pe_bl (nomark _)) (nomark _))))))) pss_nil)
    (pss_cons (ps_if (pt_val (pe_callB (kisi K) (by rfl) T.z_isinstance (by decide +kernel) (pa_cons (pv 1) (pa_cons (pe_bltn (v := .ty "int") rfl T.z_int (by decide +kernel) rfl) pa_nil)))) (pss_one (ps_ret (pe_and (pe_callB (kisi K) (by rfl) T.z_isinstance (by decide +kernel) (pa_cons (pv 0) (pa_cons (pe_bltn (v := .ty "int") rfl T.z_int (by decide +kernel) rfl) pa_nil))) (pe_and (pe_not (pe_callB (kisi K) (by rfl) T.z_isinstance (by decide +kernel) (pa_cons (pv 0) (pa_cons (pe_bltn (v := .ty "bool") rfl T.z_bool (by decide +kernel) rfl) pa_nil)))) (pe_one (pe_cmpR op_eq (pe_op op_sub (pe_callTy call_int1 (by rfl) T.z_int (by decide +kernel) (pa_cons (pv 0) pa_nil)) (pv 1)) pe_int (nomark _))))))) pss_nil)
    (pss_cons (ps_if (pt_val (pe_callB (kisi K) (by rfl) T.z_isinstance (by decide +kernel) (pa_cons (pv 1) (pa_cons (pe_bltn (v := .ty "str") rfl T.z_str (by decide +kernel) rfl) pa_nil)))) (pss_one (ps_ret (pe_and (pe_callB (kisi K) (by rfl) T.z_isinstance (by decide +kernel) (pa_cons (pv 0) (pa_cons (pe_bltn (v := .ty "str") rfl T.z_str (by decide +kernel) rfl) pa_nil))) (pe_and (pe_cmpR op_eq (pe_callB (klen K) (by rfl) T.z_len (by decide +kernel) (pa_cons (pv 0) pa_nil)) (pe_callB (klen K) (by rfl) T.z_len (by decide +kernel) (pa_cons (pv 1) pa_nil)) (nomark _)) (pe_one (pe_cmpR (keqD K hr.units) (pe_lc (own := [("k", 2)]) (g := gName 2) (by rfl) sc_law_same.nd (pi_range1 rfl T.z_range (pa_cons (pe_callB (klen K) (by rfl) T.z_len (by decide +kernel) (pa_cons (pv 1) pa_nil)) pa_nil)) (blkOk_by (own := [("k", 2)]) (N := ["told", "due", "k"]) (sc := defScope s_law_same) (by decide +kernel)) (fun _ _ _ _ _ => (pg_name (i := 2) sc_law_same.nd rfl (Or.inl rfl))) (fun _ _ _ _ _ => (pts_one (pt_cmpR op_ne (pe_slice sl_str (pv 0) (po_some (pv 2)) (po_some (pe_op op_add (pv 2) pe_int))) (pe_ix (kix K) (pv 1) (pv 2) (fun _ _ => rfl)) (nomark _)))) (fun _ _ _ _ _ => (pv 2))) (pe_lst pa_nil) (nomark _))))))) pss_nil)
    (pss_cons (ps_if (PW.pt (pw_or (pt_cmpR op_ne (pe_callB (kisi K) (by rfl) T.z_isinstance (by decide +kernel) (pa_cons (pv 0) (pa_cons (pe_bltn (v := .ty "list") rfl T.z_list (by decide +kernel) rfl) pa_nil))) (pe_callB (kisi K) (by rfl) T.z_isinstance (by decide +kernel) (pa_cons (pv 1) (pa_cons (pe_bltn (v := .ty "list") rfl T.z_list (by decide +kernel) rfl) pa_nil))) (nomark _)) (pw_or1 (pt_cmpR op_ne (pe_callB (kisi K) (by rfl) T.z_isinstance (by decide +kernel) (pa_cons (pv 0) (pa_cons (pe_bltn (v := .ty "tuple") rfl T.z_tuple (by decide +kernel) rfl) pa_nil))) (pe_callB (kisi K) (by rfl) T.z_isinstance (by decide +kernel) (pa_cons (pv 1) (pa_cons (pe_bltn (v := .ty "tuple") rfl T.z_tuple (by decide +kernel) rfl) pa_nil))) (nomark _))))) (pss_one (ps_ret pe_bl)) pss_nil)
    (pss_one (ps_ret (pe_and (pe_cmpR op_eq (pe_callB (klen K) (by rfl) T.z_len (by decide +kernel) (pa_cons (pv 0) pa_nil)) (pe_callB (klen K) (by rfl) T.z_len (by decide +kernel) (pa_cons (pv 1) pa_nil)) (nomark _)) (pe_one (pe_cmpR (keqD K hr.units) (pe_lc (own := [("k", 2)]) (g := gName 2) (by rfl) sc_law_same.nd (pi_range1 rfl T.z_range (pa_cons (pe_callB (klen K) (by rfl) T.z_len (by decide +kernel) (pa_cons (pv 1) pa_nil)) pa_nil)) (blkOk_by (own := [("k", 2)]) (N := ["told", "due", "k"]) (sc := defScope s_law_same) (by decide +kernel)) (fun _ _ _ _ _ => (pg_name (i := 2) sc_law_same.nd rfl (Or.inl rfl))) (fun _ _ _ _ _ => (pts_one (pt_not (pt_val (pe_call (ih) hr rfl T.law_same.m T.law_same.F.kp T.law_same.b .nil pass0 (pa_cons (pe_ix (kix K) (pv 0) (pv 2) (fun _ _ => rfl)) (pa_cons (pe_ix (kix K) (pv 1) (pv 2) (fun _ _ => rfl)) pa_nil))))))) (fun _ _ _ _ _ => (pv 2))) (pe_lst pa_nil) (nomark _)))))))))), ?_⟩
  cases hS with
  | non => exact ⟨_, rfl, rfl, _, rfl, iteT (iteT ⟨_, rfl, rfl, _, rfl, iteT ⟨_, rfl, rfl, q _ (Ex.refl _)⟩⟩)⟩
  | bl b =>
    refine ⟨_, rfl, rfl, _, rfl, iteF ⟨_, rfl, _, _, _, _, true, rfl, .ty _, (.base (.bl b)), kit_ty (by decide +kernel), ⟨_, rfl, iteT ⟨_, rfl, rfl, _, rfl, iteF ?_⟩⟩⟩⟩
    refine ⟨_, rfl, _, _, _, _, true, rfl, .ty _, (.base (.bl b)), kit_ty (by decide +kernel), ⟨_, rfl, iteT ⟨_, rfl, _, _, rfl, rfl, _, rfl, _, _, rfl, rfl, rfl, ?_⟩⟩⟩
    rw [decide_eq_true (rfl : V.bl (decide (b = true)) = V.bl (decide (b = true)))]
    exact q _ (Ex.refl _)
  | int i =>
    refine ⟨_, rfl, rfl, _, rfl, iteF ⟨_, rfl, _, _, _, _, false, rfl, .ty _, (.base (.int i)), kit_ty (by decide +kernel), ⟨_, rfl, iteF ?_⟩⟩⟩
    refine ⟨_, rfl, _, _, _, _, true, rfl, .ty _, (.base (.int i)), kit_ty (by decide +kernel), ⟨_, rfl, iteT ?_⟩⟩
    refine ⟨_, rfl, _, _, _, _, true, rfl, .ty _, (.base (.int i)), kit_ty (by decide +kernel), ⟨_, rfl, iteT ?_⟩⟩
    refine ⟨_, rfl, _, _, _, _, false, rfl, .ty _, (.base (.int i)), kit_ty (by decide +kernel), ⟨_, rfl, _, rfl, iteT ?_⟩⟩
    refine ⟨_, rfl, .inl ⟨_, rfl, _, rfl, _, _, rfl, rfl, rfl, ?_⟩⟩
    show Q (V.bl (decide (V.int (i - i) = V.int 0))) H
    rw [Int.sub_self]
    exact q _ (Ex.refl _)
  | str z hz =>
    have hz' : z.length ≤ sizeLine := Nat.le_trans hz (by decide)
    refine ⟨_, rfl, rfl, _, rfl, iteF ⟨_, rfl, _, _, _, _, false, rfl, .ty _, (.base (.str z)), kit_ty (by decide +kernel), ⟨_, rfl, iteF ?_⟩⟩⟩
    refine ⟨_, rfl, _, _, _, _, false, rfl, .ty _, (.base (.str z)), kit_ty (by decide +kernel), ⟨_, rfl, iteF ?_⟩⟩
    refine ⟨_, rfl, _, _, _, _, true, rfl, .ty _, (.base (.str z)), kit_ty (by decide +kernel), ⟨_, rfl, iteT ?_⟩⟩
    refine ⟨_, rfl, _, _, _, _, true, rfl, .ty _, (.base (.str z)), kit_ty (by decide +kernel), ⟨_, rfl, iteT ?_⟩⟩
    refine ⟨_, rfl, _, z.length, rfl, ⟨hz', rfl⟩, _, rfl, _, z.length, rfl, ⟨hz', rfl⟩, rfl, _, rfl, ?_⟩
    rw [if_pos (decide_eq_true rfl)]
    refine eq_empty (no_given (n := (z.length : Int).toNat) (v := fun _ => V.non)) ?_ H (Ex.refl _) Q (fun H2 e2 => q H2 e2)
    refine el_lcR1 (fun _ => false) (fun _ => V.non) ?_ ⟨by omega, by omega⟩ (fun _ => rfl) ?_ (fun _ _ _ _ hf => nomatch hf)
    · exact fun H1 e Q' k => ⟨_, rfl, _, z.length, rfl, ⟨hz', rfl⟩, k H1 (Ex.refl _)⟩
    · intro i H1 e hi
      have hz2 : i < z.cps.toList.length := by
        have e2 : z.cps.toList.length = z.length := Array.length_toList
        omega
      have hat : atI z.cps.toList (i : Int) = some z.cps.toList[i] := atI_nat (List.getElem?_eq_getElem hz2)
      have hc := cut_one (List.getElem?_eq_getElem hz2)
      intro H2 e2 Q2 k2
      refine ⟨_, rfl, _, rfl, _, rfl, _, rfl, _, _, rfl, rfl, _, rfl, z, rfl, hz', _, rfl, _, rfl, .inr (.inr ⟨z, _, _, rfl, rfl, hz', hat, rfl, _, rfl, ?_⟩)⟩
      rw [hc, decide_eq_true rfl]
      exact k2 H2 (Ex.refl _)
  | @lst n a b xs ys h1 h2 hl hl1 all =>
    refine ⟨_, rfl, rfl, _, rfl, iteF ⟨_, rfl, _, _, _, _, false, rfl, .ty _, (tyL h2), kit_ty (by decide +kernel), ⟨_, rfl, iteF ?_⟩⟩⟩
    refine ⟨_, rfl, _, _, _, _, false, rfl, .ty _, (tyL h2), kit_ty (by decide +kernel), ⟨_, rfl, iteF ?_⟩⟩
    refine ⟨_, rfl, _, _, _, _, false, rfl, .ty _, (tyL h2), kit_ty (by decide +kernel), ⟨_, rfl, iteF ?_⟩⟩
    refine ⟨_, rfl, _, _, _, _, true, rfl, .ty _, (tyL h1), kit_ty (by decide +kernel), ⟨_, rfl, _, _, _, _, true, rfl, .ty _, (tyL h2), kit_ty (by decide +kernel), ⟨rfl, _, rfl, iteF ?_⟩⟩⟩
    refine ⟨_, rfl, _, _, _, _, false, rfl, .ty _, (tyL h1), kit_ty (by decide +kernel), ⟨_, rfl, _, _, _, _, false, rfl, .ty _, (tyL h2), kit_ty (by decide +kernel), ⟨rfl, _, rfl, iteF ?_⟩⟩⟩
    refine ⟨_, rfl, _, xs.length, rfl, .inl ⟨_, h1, rfl⟩, _, rfl, _, ys.length, rfl, .inl ⟨_, h2, rfl⟩, rfl, _, rfl, ?_⟩
    rw [if_pos (decide_eq_true (by rw [hl]))]
    refine eq_empty (no_given (n := (ys.length : Int).toNat) (v := fun _ => V.non)) ?_ H (Ex.refl _) Q (fun H2 e2 => q H2 e2)
    refine el_lcR1 (fun _ => false) (fun _ => V.non) ?_ ⟨by omega, by omega⟩ (fun _ => rfl) ?_ (fun _ _ _ _ hf => nomatch hf)
    · exact fun H1 e Q' k => ⟨_, rfl, _, ys.length, rfl, .inl ⟨_, ex_l e h2, rfl⟩, k H1 (Ex.refl _)⟩
    · intro i H1 e hi H2 e2 Q2 k2
      have hy : ys[i]? = some ys[i] := List.getElem?_eq_getElem (by omega)
      have hx : xs[i]? = some xs[i] := List.getElem?_eq_getElem (by omega)
      refine ⟨_, rfl, _, rfl, .inl ⟨_, _, _, _, rfl, rfl, ex_l (e.trans e2) h1, atI_nat hx, _, rfl, _, rfl, .inl ⟨_, _, _, _, rfl, rfl, ex_l (e.trans e2) h2, atI_nat hy, ?_⟩⟩⟩
      exact ⟨_, _, rfl, (all i _ _ hx hy).ex (e.trans e2), fun H3 e3 => ⟨true, rfl, k2 H3 e3⟩⟩
  | @tup n a b xs ys h1 h2 hl hl1 all =>
    refine ⟨_, rfl, rfl, _, rfl, iteF ⟨_, rfl, _, _, _, _, false, rfl, .ty _, (tyT h2), kit_ty (by decide +kernel), ⟨_, rfl, iteF ?_⟩⟩⟩
    refine ⟨_, rfl, _, _, _, _, false, rfl, .ty _, (tyT h2), kit_ty (by decide +kernel), ⟨_, rfl, iteF ?_⟩⟩
    refine ⟨_, rfl, _, _, _, _, false, rfl, .ty _, (tyT h2), kit_ty (by decide +kernel), ⟨_, rfl, iteF ?_⟩⟩
    refine ⟨_, rfl, _, _, _, _, false, rfl, .ty _, (tyT h1), kit_ty (by decide +kernel), ⟨_, rfl, _, _, _, _, false, rfl, .ty _, (tyT h2), kit_ty (by decide +kernel), ⟨rfl, _, rfl, iteF ?_⟩⟩⟩
    refine ⟨_, rfl, _, _, _, _, true, rfl, .ty _, (tyT h1), kit_ty (by decide +kernel), ⟨_, rfl, _, _, _, _, true, rfl, .ty _, (tyT h2), kit_ty (by decide +kernel), ⟨rfl, _, rfl, iteF ?_⟩⟩⟩
    refine ⟨_, rfl, _, xs.length, rfl, .inr ⟨_, h1, rfl⟩, _, rfl, _, ys.length, rfl, .inr ⟨_, h2, rfl⟩, rfl, _, rfl, ?_⟩
    rw [if_pos (decide_eq_true (by rw [hl]))]
    refine eq_empty (no_given (n := (ys.length : Int).toNat) (v := fun _ => V.non)) ?_ H (Ex.refl _) Q (fun H2 e2 => q H2 e2)
    refine el_lcR1 (fun _ => false) (fun _ => V.non) ?_ ⟨by omega, by omega⟩ (fun _ => rfl) ?_ (fun _ _ _ _ hf => nomatch hf)
    · exact fun H1 e Q' k => ⟨_, rfl, _, ys.length, rfl, .inr ⟨_, ex_t e h2, rfl⟩, k H1 (Ex.refl _)⟩
    · intro i H1 e hi H2 e2 Q2 k2
      have hy : ys[i]? = some ys[i] := List.getElem?_eq_getElem (by omega)
      have hx : xs[i]? = some xs[i] := List.getElem?_eq_getElem (by omega)
      refine ⟨_, rfl, _, rfl, .inr (.inl ⟨_, _, _, _, rfl, rfl, ex_t (e.trans e2) h1, atI_nat hx, _, rfl, _, rfl, .inr (.inl ⟨_, _, _, _, rfl, rfl, ex_t (e.trans e2) h2, atI_nat hy, ?_⟩)⟩)⟩
      exact ⟨_, _, rfl, (all i _ _ hx hy).ex (e.trans e2), fun H3 e3 => ⟨true, rfl, k2 H3 e3⟩⟩
theorem ok_same (T : TA1 K mg) : ∀ n, FnOk P w K mg base CX0 n T.law_same.a T.law_same.fd ["told", "due"] (spS K n)
  | 0 => none_left fun _ _ _ _ h => h
  | n + 1 => same_step T n (ok_same T n)
theorem ok_law_same (T : TA1 K mg) : FnOk P w K mg base CX0 9 T.law_same.a T.law_same.fd ["told", "due"] (spSame K 8) := ok_same T 9
end
end L2.U


set_option Elab.async false
set_option linter.all false
set_option maxRecDepth 100000
set_option maxHeartbeats 4000000
namespace L2.U
open PySem PySem.Spec PyProof.Rows Evl

abbrev s_arrangements : Stmt := top 16
theorem sc_arrangements : FnScope ["parts", "result", "total", "part"] ["parts"] (defScope s_arrangements) := ⟨rfl, rfl, rfl, by decide +kernel, rfl, by decide +kernel, by decide +kernel⟩
abbrev s_even_parts : Stmt := top 17
theorem sc_even_parts : FnScope ["total", "many", "low", "greater"] ["total", "many"] (defScope s_even_parts) := ⟨rfl, rfl, rfl, by decide +kernel, rfl, by decide +kernel, by decide +kernel⟩
abbrev s_check_number : Stmt := top 18
theorem sc_check_number : FnScope ["number"] ["number"] (defScope s_check_number) := ⟨rfl, rfl, rfl, by decide +kernel, rfl, by decide +kernel, by decide +kernel⟩
abbrev s_check_many : Stmt := top 19
theorem sc_check_many : FnScope ["many"] ["many"] (defScope s_check_many) := ⟨rfl, rfl, rfl, by decide +kernel, rfl, by decide +kernel, by decide +kernel⟩
abbrev s_greatest_by : Stmt := top 21
theorem sc_greatest_by : FnScope ["kinds", "parts"] ["kinds", "parts"] (defScope s_greatest_by) := ⟨rfl, rfl, rfl, by decide +kernel, rfl, by decide +kernel, by decide +kernel⟩
abbrev s_both : Stmt := top 25
theorem sc_both : FnScope ["own", "other"] ["own", "other"] (defScope s_both) := ⟨rfl, rfl, rfl, by decide +kernel, rfl, by decide +kernel, by decide +kernel⟩
abbrev s_both_known : Stmt := top 26
theorem sc_both_known : FnScope ["own", "other"] ["own", "other"] (defScope s_both_known) := ⟨rfl, rfl, rfl, by decide +kernel, rfl, by decide +kernel, by decide +kernel⟩
abbrev s_check_kinds : Stmt := top 27
theorem sc_check_kinds : FnScope ["own", "other", "most"] ["own", "other", "most"] (defScope s_check_kinds) := ⟨rfl, rfl, rfl, by decide +kernel, rfl, by decide +kernel, by decide +kernel⟩
abbrev s_init_InvalidNumber : Stmt := inClass (top 9) 0
theorem sc_init_InvalidNumber : FnScope ["self", "given"] ["self", "given"] (defScope s_init_InvalidNumber) := ⟨rfl, rfl, rfl, by decide +kernel, rfl, by decide +kernel, by decide +kernel⟩
abbrev s_init_InvalidMany : Stmt := inClass (top 10) 0
theorem sc_init_InvalidMany : FnScope ["self", "given"] ["self", "given"] (defScope s_init_InvalidMany) := ⟨rfl, rfl, rfl, by decide +kernel, rfl, by decide +kernel, by decide +kernel⟩
abbrev s_init_InvalidParts : Stmt := inClass (top 11) 0
theorem sc_init_InvalidParts : FnScope ["self", "given"] ["self", "given"] (defScope s_init_InvalidParts) := ⟨rfl, rfl, rfl, by decide +kernel, rfl, by decide +kernel, by decide +kernel⟩
abbrev s_init_InvalidOwn : Stmt := inClass (top 12) 0
theorem sc_init_InvalidOwn : FnScope ["self", "given"] ["self", "given"] (defScope s_init_InvalidOwn) := ⟨rfl, rfl, rfl, by decide +kernel, rfl, by decide +kernel, by decide +kernel⟩
abbrev s_init_InvalidOther : Stmt := inClass (top 13) 0
theorem sc_init_InvalidOther : FnScope ["self", "given"] ["self", "given"] (defScope s_init_InvalidOther) := ⟨rfl, rfl, rfl, by decide +kernel, rfl, by decide +kernel, by decide +kernel⟩
structure TA2 (K : PySem.W.Frag) (mg : Str → Option Value) extends TA1 K mg where
  arrangements : DefAt K mg "arrangements" s_arrangements ["parts"]
  even_parts : DefAt K mg "even_parts" s_even_parts ["total", "many"]
  check_number : DefAt K mg "_check_number" s_check_number ["number"]
  check_many : DefAt K mg "_check_many" s_check_many ["many"]
  greatest_by : DefAt K mg "greatest_by" s_greatest_by ["kinds", "parts"]
  both : DefAt K mg "both" s_both ["own", "other"]
  both_known : DefAt K mg "both_known" s_both_known ["own", "other"]
  check_kinds : DefAt K mg "_check_kinds" s_check_kinds ["own", "other", "most"]
  InvalidNumber : ErrAt K mg "InvalidNumber" "InvalidNumber.__init__" s_init_InvalidNumber "given"
  InvalidMany : ErrAt K mg "InvalidMany" "InvalidMany.__init__" s_init_InvalidMany "given"
  InvalidParts : ErrAt K mg "InvalidParts" "InvalidParts.__init__" s_init_InvalidParts "given"
  InvalidOwn : ErrAt K mg "InvalidOwn" "InvalidOwn.__init__" s_init_InvalidOwn "given"
  InvalidOther : ErrAt K mg "InvalidOther" "InvalidOther.__init__" s_init_InvalidOther "given"
  t_HIGHEST : Tok
  c_HIGHEST : mg "HIGHEST" = some (.int 64 t_HIGHEST)
  t_FEWEST_KINDS : Tok
  c_FEWEST_KINDS : mg "FEWEST_KINDS" = some (.int 2 t_FEWEST_KINDS)
  t_MOST_KINDS : Tok
  c_MOST_KINDS : mg "MOST_KINDS" = some (.int 16 t_MOST_KINDS)
  c_comb : mg "comb" = some (.builtin "math.comb")
section
variable {P : Program} {w : World} {K : PySem.W.Frag} {mg : Str → Option Value} {base : Heap}
theorem ok_init_InvalidNumber (T : ErrAt K mg "InvalidNumber" "InvalidNumber.__init__" s_init_InvalidNumber "given") : FnOk P w K mg base CX0 1 T.fI T.fd ["self", "given"] (spInit T.C "given") := by
  refine T.F.ok sc_init_InvalidNumber (fun vs H Q E h => ?_) (fun cdv A outer s H vs Q E hr h => ?_)
  · obtain ⟨a, y, rfl, _⟩ := h; rfl
  obtain ⟨a, y, rfl, ha, q⟩ := h
  exact ⟨_, pss_one (ps_ost (pv 0) (pv 1)), _, rfl, _, rfl, a, T.C, rfl, T.T, T.nf, .inl ⟨ha, fun d hd nd => q d hd nd⟩⟩
theorem ok_init_InvalidMany (T : ErrAt K mg "InvalidMany" "InvalidMany.__init__" s_init_InvalidMany "given") : FnOk P w K mg base CX0 1 T.fI T.fd ["self", "given"] (spInit T.C "given") := by
  refine T.F.ok sc_init_InvalidMany (fun vs H Q E h => ?_) (fun cdv A outer s H vs Q E hr h => ?_)
  · obtain ⟨a, y, rfl, _⟩ := h; rfl
  obtain ⟨a, y, rfl, ha, q⟩ := h
  exact ⟨_, pss_one (ps_ost (pv 0) (pv 1)), _, rfl, _, rfl, a, T.C, rfl, T.T, T.nf, .inl ⟨ha, fun d hd nd => q d hd nd⟩⟩
theorem ok_init_InvalidParts (T : ErrAt K mg "InvalidParts" "InvalidParts.__init__" s_init_InvalidParts "given") : FnOk P w K mg base CX0 1 T.fI T.fd ["self", "given"] (spInit T.C "given") := by
  refine T.F.ok sc_init_InvalidParts (fun vs H Q E h => ?_) (fun cdv A outer s H vs Q E hr h => ?_)
  · obtain ⟨a, y, rfl, _⟩ := h; rfl
  obtain ⟨a, y, rfl, ha, q⟩ := h
  exact ⟨_, pss_one (ps_ost (pv 0) (pv 1)), _, rfl, _, rfl, a, T.C, rfl, T.T, T.nf, .inl ⟨ha, fun d hd nd => q d hd nd⟩⟩
theorem ok_init_InvalidOwn (T : ErrAt K mg "InvalidOwn" "InvalidOwn.__init__" s_init_InvalidOwn "given") : FnOk P w K mg base CX0 1 T.fI T.fd ["self", "given"] (spInit T.C "given") := by
  refine T.F.ok sc_init_InvalidOwn (fun vs H Q E h => ?_) (fun cdv A outer s H vs Q E hr h => ?_)
  · obtain ⟨a, y, rfl, _⟩ := h; rfl
  obtain ⟨a, y, rfl, ha, q⟩ := h
  exact ⟨_, pss_one (ps_ost (pv 0) (pv 1)), _, rfl, _, rfl, a, T.C, rfl, T.T, T.nf, .inl ⟨ha, fun d hd nd => q d hd nd⟩⟩
theorem ok_init_InvalidOther (T : ErrAt K mg "InvalidOther" "InvalidOther.__init__" s_init_InvalidOther "given") : FnOk P w K mg base CX0 1 T.fI T.fd ["self", "given"] (spInit T.C "given") := by
  refine T.F.ok sc_init_InvalidOther (fun vs H Q E h => ?_) (fun cdv A outer s H vs Q E hr h => ?_)
  · obtain ⟨a, y, rfl, _⟩ := h; rfl
  obtain ⟨a, y, rfl, ha, q⟩ := h
  exact ⟨_, pss_one (ps_ost (pv 0) (pv 1)), _, rfl, _, rfl, a, T.C, rfl, T.T, T.nf, .inl ⟨ha, fun d hd nd => q d hd nd⟩⟩
/-- a check of any data: it lets what is right, else raises the error of C with the very value -/
def spChkD (K : PySem.W.Frag) (C : Addr) (okD : PyData → Bool) : Sp := fun vs H Q E => ∃ x d n ok, vs = [x] ∧ Rd K ok H n x d ∧ (okD d = true → ∀ H', Ex H H' → Q .non H') ∧
  (okD d = false → ∀ e H', Ex H H' → H' e = some (.xd [("given", x)]) → E (.ref C) (some e) H')
def num64 (d : PyData) : Bool := betwD 0 64 d
def many64 (d : PyData) : Bool := betwD 1 64 d
theorem ok_check_number (T : TA2 K mg) : FnOk P w K mg base (L2.CX P w) 4 T.check_number.a T.check_number.fd ["number"] (spChkD K T.InvalidNumber.C num64) := by
  refine T.check_number.F.okX sc_check_number (fun vs H Q E h => ?_) (fun cdv A outer s H vs Q E hr h => ?_)
  · obtain ⟨x, d, n, ok, rfl, _⟩ := h; rfl
  obtain ⟨x, d, n, ok, rfl, h, q1, q2⟩ := h
  refine ⟨_, (pss_one (ps_if (pt_not (pt_val (pe_call (ok_is_between T.toTA1) (hr.mono (by decide)) rfl T.is_between.m T.is_between.F.kp T.is_between.b .nil pass0 (pa_cons (pv 0) (pa_cons pe_int (pa_cons (pe_glob (v := .int 64) rfl T.c_HIGHEST ⟨_, rfl⟩) pa_nil)))))) (pss_one (ps_raise rfl (takes_of rfl rfl rfl rfl) (pmk_oex T.InvalidNumber.T T.InvalidNumber.iC T.InvalidNumber.tI (ok_init_InvalidNumber T.InvalidNumber) (hr.mono (by decide)) T.InvalidNumber.b .nil pass0 rfl T.InvalidNumber.gC (by exact (pa_cons (pv 0) pa_nil))))) pss_nil)), ?_⟩
  refine ⟨_, rfl, _, _, _, rfl, h.dat, fun b h1 h2 => ⟨b, rfl, ?_⟩⟩
  have hb := rd_betw h h1 h2
  subst hb
  cases c : betwD 0 64 d with
  | true => exact q1 c _ (Ex.refl _)
  | false => exact ⟨_, rfl, (by show 1 ≤ 1000; decide), fun a ha => raised ha fun e H' ex he => q2 c e H' ex he⟩
theorem ok_check_many (T : TA2 K mg) : FnOk P w K mg base (L2.CX P w) 4 T.check_many.a T.check_many.fd ["many"] (spChkD K T.InvalidMany.C many64) := by
  refine T.check_many.F.okX sc_check_many (fun vs H Q E h => ?_) (fun cdv A outer s H vs Q E hr h => ?_)
  · obtain ⟨x, d, n, ok, rfl, _⟩ := h; rfl
  obtain ⟨x, d, n, ok, rfl, h, q1, q2⟩ := h
  refine ⟨_, (pss_one (ps_if (pt_not (pt_val (pe_call (ok_is_between T.toTA1) (hr.mono (by decide)) rfl T.is_between.m T.is_between.F.kp T.is_between.b .nil pass0 (pa_cons (pv 0) (pa_cons pe_int (pa_cons (pe_glob (v := .int 64) rfl T.c_HIGHEST ⟨_, rfl⟩) pa_nil)))))) (pss_one (ps_raise rfl (takes_of rfl rfl rfl rfl) (pmk_oex T.InvalidMany.T T.InvalidMany.iC T.InvalidMany.tI (ok_init_InvalidMany T.InvalidMany) (hr.mono (by decide)) T.InvalidMany.b .nil pass0 rfl T.InvalidMany.gC (by exact (pa_cons (pv 0) pa_nil))))) pss_nil)), ?_⟩
  refine ⟨_, rfl, _, _, _, rfl, h.dat, fun b h1 h2 => ⟨b, rfl, ?_⟩⟩
  have hb := rd_betw h h1 h2
  subst hb
  cases c : betwD 1 64 d with
  | true => exact q1 c _ (Ex.refl _)
  | false => exact ⟨_, rfl, (by show 1 ≤ 1000; decide), fun a ha => raised ha fun e H' ex he => q2 c e H' ex he⟩
theorem betw_int {lo hi : Int} {ok : Addr → Prop} {H : Hp} {n : Nat} {x : V} {d : PyData} (h : Rd K ok H n x d) (c : betwD lo hi d = true) : ∃ i, x = .int i ∧ d = .int i ∧ lo ≤ i ∧ i ≤ hi := by
  cases h with
  | int i => exact ⟨i, rfl, rfl, of_decide_eq_true c⟩
  | non => cases c
  | bl _ => cases c
  | str _ _ _ => cases c
  | lst _ _ _ _ _ => cases c
  | tup _ _ _ _ _ => cases c

def evenOf (i j : Int) : List Int := List.replicate (i - i / j * j).toNat (i / j + 1) ++ List.replicate (j - (i - i / j * j)).toNat (i / j)
def spEven (K : PySem.W.Frag) (C D : Addr) : Sp := fun vs H Q E => ∃ x y dx dy n ok, vs = [x, y] ∧ Rd K ok H n x dx ∧ Rd K ok H n y dy ∧
  (num64 dx = true → many64 dy = true → ∀ p H', Ex H H' → (∀ i j, x = .int i → y = .int j → SqT K H' p ((evenOf i j).map V.int)) → Q (.ref p) H') ∧
  (num64 dx = false → ∀ e H', Ex H H' → H' e = some (.xd [("given", x)]) → E (.ref C) (some e) H') ∧
  (num64 dx = true → many64 dy = false → ∀ e H', Ex H H' → H' e = some (.xd [("given", y)]) → E (.ref D) (some e) H')
theorem rep_one {n : Nat} {x : V} : (List.replicate n [x]).flatten = List.replicate n x := by
  induction n with
  | zero => rfl
  | succ n ih => rw [List.replicate_succ, List.flatten_cons, ih, List.replicate_succ]; rfl
theorem even_map {i j : Int} : (List.replicate (i - i / j * j).toNat (V.int (i / j + 1)) ++ List.replicate (j - (i - i / j * j)).toNat (V.int (i / j))) = (evenOf i j).map V.int := by
  unfold evenOf
  rw [List.map_append, List.map_replicate, List.map_replicate]
theorem ok_even_parts (T : TA2 K mg) : FnOk P w K mg base (L2.CX P w) 5 T.even_parts.a T.even_parts.fd ["total", "many"] (spEven K T.InvalidNumber.C T.InvalidMany.C) := by
  refine T.even_parts.F.okX sc_even_parts (fun vs H Q E h => ?_) (fun cdv A outer s H vs Q E hr h => ?_)
  · obtain ⟨x, y, dx, dy, n, ok, rfl, _⟩ := h; rfl
  obtain ⟨x, y, dx, dy, n, ok, rfl, hx, hy, q1', q2, q3⟩ := h
  refine ⟨_, (pss_cons (ps_expr (by exact (pe_callS (ok_check_number T) (hr.mono (by decide)) rfl T.check_number.m T.check_number.F.kp T.check_number.b (fun σ => passAt (takes_of rfl rfl rfl rfl) σ) (pa_cons (pv 0) pa_nil))))
    (pss_cons (ps_expr (by exact (pe_callS (ok_check_many T) (hr.mono (by decide)) rfl T.check_many.m T.check_many.F.kp T.check_many.b (fun σ => passAt (takes_of rfl rfl rfl rfl) σ) (pa_cons (pv 1) pa_nil))))
    (pss_cons (ps_set (i := 2) sc_even_parts.nd rfl (Or.inl rfl) (pe_op op_fdiv (pv 0) (pv 1)))
    (pss_cons (ps_set (i := 3) sc_even_parts.nd rfl (Or.inl rfl) (pe_op op_sub (pv 0) (pe_op op_mul (pv 2) (pv 1))))
    (pss_one (ps_ret (pe_op (kcatA K) (pe_op (krepA K) (pe_tup (pa_cons (pe_op op_add (pv 2) pe_int) pa_nil)) (pv 3)) (pe_op (krepA K) (pe_tup (pa_cons (pv 2) pa_nil)) (pe_op op_sub (pv 1) (pv 3)))))))))), ?_⟩
  refine ⟨_, rfl, x, dx, n, ok, rfl, hx, fun c H1 e1 => ?_, fun no e H1 e1 he => q2 no e H1 e1 he⟩
  refine ⟨_, rfl, y, dy, n, ok, rfl, hy.ex e1, fun c2 H2 e2 => ?_, fun no e H2 e2 he => q3 c no e H2 (e1.trans e2) he⟩
  obtain ⟨i, rfl, rfl, i0, i1⟩ := betw_int hx c
  obtain ⟨j, rfl, rfl, j0, j1⟩ := betw_int hy c2
  have q1 : ∀ p H', Ex H H' → SqT K H' p (List.replicate (i - i / j * j).toNat (V.int (i / j + 1)) ++ List.replicate (j - (i - i / j * j)).toNat (V.int (i / j))) → Q (.ref p) H' := fun p H' e h => q1' c c2 p H' e fun i' j' ei ej => by
    cases ei; cases ej; rw [even_map] at h; exact h
  have d2 : i / j * j ≤ i := Int.ediv_mul_le _ (by omega)
  have d3 : i - i / j * j < j := by
    have := Int.lt_ediv_add_one_mul_self i (show 0 < j by omega)
    have e : (i / j + 1) * j = i / j * j + j := by rw [Int.add_mul, Int.one_mul]
    omega
  refine ⟨_, rfl, _, rfl, _, _, rfl, rfl, ⟨by omega, by omega⟩, ?_⟩
  refine ⟨_, rfl, _, rfl, _, rfl, _, _, rfl, rfl, .inr ⟨by omega, by omega⟩, _, _, rfl, rfl, ?_⟩
  refine ⟨_, rfl, _, _, rfl, rfl, (by show 1 ≤ sizeLine; decide), fun p hp => ?_⟩
  refine ⟨_, rfl, p, _, _, rfl, rfl, st_of upd_same, by simp, by omega, by omega, (by show 1 ≤ 1000; decide), fun r H3 e3 hr3 => ?_⟩
  refine ⟨_, rfl, (by show 1 ≤ sizeLine; decide), fun p2 hp2 => ?_⟩
  refine ⟨_, rfl, _, rfl, _, _, rfl, rfl, p2, _, _, rfl, rfl, st_of upd_same, by simp, by omega, by omega, (by show 1 ≤ 1000; decide), fun r2 H4 e4 hr4 => ?_⟩
  rw [rep_one] at hr3 hr4
  have hr3' := ex_t e4 (ex_t (Ex.new hp2) hr3)
  have e5 : Ex H H4 := (((e1.trans e2).trans (Ex.new hp)).trans e3).trans ((Ex.new hp2).trans e4)
  refine ⟨r, r2, _, _, rfl, rfl, hr3', hr4, ?_, ?_, ?_, ?_⟩
  · rw [List.length_replicate, List.length_replicate]
    exact Nat.le_trans (show _ ≤ 1000 by omega) (by decide)
  · intro z
    refine q1 r2 _ e5 ?_
    rw [z]
    exact hr4
  · intro _ z
    refine q1 r _ e5 ?_
    rw [z, List.append_nil]
    exact hr3'
  · intro _ _ p5 hp5
    exact q1 p5 _ (e5.trans (Ex.new hp5)) (st_of upd_same)
/-! ### comprehensions over a list or a tuple -/
theorem given_all {n : Nat} {v : Nat → V} : given n (fun _ => true) v = (List.range n).map v := by
  unfold given
  rw [List.filter_eq_self.mpr (by intro a _; rfl)]
theorem el_lcT {σ : L2.St} {H : Hp} {a : Addr} {xs : List V} {tl te : TE} {t : TT} {j : Nat} {vs : List Nat} (f : Nat → Bool) (v : Nat → V) (h : Ev tl σ H (.ref a)) (hx : SqT K H a xs) (hz : xs.length ≤ 40000)
    (hw : ∀ x, wipe ((wipe σ vs).set j (some x)) vs = wipe σ vs) (ht : ∀ (i : Nat) (x : V) H1, Ex H H1 → xs[i]? = some x → EvT t ((wipe σ vs).set j (some x)) H1 (f i))
    (he : ∀ (i : Nat) (x : V) H1, Ex H H1 → xs[i]? = some x → f i = true → Ev te ((wipe σ vs).set j (some x)) H1 (v i)) : EvL (tLc (iTup K tl) (gName j) t te vs) σ H (given xs.length f v) := by
  intro H0 e Q q
  refine h H0 e _ fun H1 e1 => ?_
  have e01 := e.trans e1
  refine ⟨a, rfl, ⟨xs, ex_t e01 hx⟩, fun Dl hD => lc_tup (xs := xs) (Cw H1 f v Dl) ⟨hD, Ex.new hD, upd_same⟩ (fun i H' _ p => ex_t (e01.trans p.2.1) hx) ?_ ?_⟩
  · intro i x H' hi p
    have hlt := (List.getElem?_eq_some_iff.mp hi).1
    exact ⟨hw x, cw_turn p (by omega) (ht i x H1 e01 hi) (fun hf => he i x H1 e01 hi hf)⟩
  · exact fun H' p => q Dl H' (fresh_back e1 p.1) (e1.trans p.2.1) p.2.2
theorem el_lcL {σ : L2.St} {H : Hp} {a : Addr} {xs : List V} {tl te : TE} {t : TT} {j : Nat} {vs : List Nat} (f : Nat → Bool) (v : Nat → V) (h : Ev tl σ H (.ref a)) (hx : SqL K H a xs) (hz : xs.length ≤ 40000)
    (hw : ∀ x, wipe ((wipe σ vs).set j (some x)) vs = wipe σ vs) (ht : ∀ (i : Nat) (x : V) H1, Ex H H1 → xs[i]? = some x → EvT t ((wipe σ vs).set j (some x)) H1 (f i))
    (he : ∀ (i : Nat) (x : V) H1, Ex H H1 → xs[i]? = some x → f i = true → Ev te ((wipe σ vs).set j (some x)) H1 (v i)) : EvL (tLc (iList K tl) (gName j) t te vs) σ H (given xs.length f v) := by
  intro H0 e Q q
  refine h H0 e _ fun H1 e1 => ?_
  have e01 := e.trans e1
  refine ⟨a, rfl, ⟨xs, ex_l e01 hx⟩, fun Dl hD => lc_list (xs := xs) (Cw H1 f v Dl) ⟨hD, Ex.new hD, upd_same⟩ (fun i H' _ p => ex_l (e01.trans p.2.1) hx) ?_ ?_⟩
  · intro i x H' hi p
    have hlt := (List.getElem?_eq_some_iff.mp hi).1
    exact ⟨hw x, cw_turn p (by omega) (ht i x H1 e01 hi) (fun hf => he i x H1 e01 hi hf)⟩
  · exact fun H' p => q Dl H' (fresh_back e1 p.1) (e1.trans p.2.1) p.2.2
/-! ### all of a list or tuple are ints from lo on -/
def itemsD : PyData → List PyData
  | .list ds => ds
  | .tuple ds => ds
  | _ => []
/-- an address of a list or a tuple that holds data -/
theorem rd_seq {ok : Addr → Prop} {H : Hp} {n : Nat} {x : V} {d : PyData} (h : Rd K ok H n x d) (s : isSeq d = true) : ∃ a xs, x = .ref a ∧ (SqL K H a xs ∧ d = .list (itemsD d) ∨ SqT K H a xs ∧ d = .tuple (itemsD d)) ∧ xs.length = (itemsD d).length ∧ xs.length ≤ 1000 ∧
    ∀ (i : Nat) (x : V) (e : PyData), xs[i]? = some x → (itemsD d)[i]? = some e → Rd K ok H (n - 1) x e := by
  cases h with
  | lst h ha hl hz all => exact ⟨_, _, rfl, .inl ⟨SqL.of h, rfl⟩, hl, by omega, all⟩
  | tup h ha hl hz all => exact ⟨_, _, rfl, .inr ⟨h, rfl⟩, hl, by omega, all⟩
  | non => cases s
  | bl _ => cases s
  | int _ => cases s
  | str _ _ _ => cases s
def spAreFrom (K : PySem.W.Frag) : Sp := fun vs H Q _ => ∃ x d n ok lo, vs = [x, .int lo] ∧ Rd K ok H n x d ∧ isSeq d = true ∧ ∀ H', Ex H H' → Q (.bl ((itemsD d).all (fromD lo))) H'
theorem ok_are_from (T : TA2 K mg) : FnOk P w K mg base CX0 3 T.are_from.a T.are_from.fd ["values", "low"] (spAreFrom K) := by
  refine T.are_from.F.ok sc_are_from (fun vs H Q E h => ?_) (fun cdv A outer s H vs Q E hr h => ?_)
  · obtain ⟨x, d, n, ok, lo, rfl, _⟩ := h; rfl
  obtain ⟨x, d, n, ok, lo, rfl, h, sq, q⟩ := h
  obtain ⟨a, xs, rfl, hs, hl, hz, all⟩ := rd_seq h sq
  refine ⟨_, (pss_one (ps_ret (pe_callB (kall K rfl) (by rfl) T.z_all (by decide +kernel) (pa_cons (pe_lc (own := [("value", 2)]) (g := gName 2) (by rfl) sc_are_from.nd (kpis K (pv 0)) (blkOk_by (own := [("value", 2)]) (N := ["values", "low", "value"]) (sc := defScope s_are_from) (by decide +kernel)) (fun _ _ _ _ _ => (pg_name (i := 2) sc_are_from.nd rfl (Or.inl rfl))) (fun _ _ _ _ _ => pts_nil) (fun _ _ _ _ _ => (pe_call (ok_is_from T.toTA1) (hr.mono (by decide)) rfl T.is_from.m T.is_from.F.kp T.is_from.b .nil pass0 (pa_cons (pv 2) (pa_cons (pv 1) pa_nil))))) pa_nil)))), ?_⟩
  have fin : ∀ (p : Addr) (H2 : Hp), H p = none → Ex H H2 → H2 p = some (.lst (given xs.length (fun _ => true) (fun i => .bl (fromD lo ((itemsD d).getD i .none))))) → ∃ (a : Addr) (bs : List Bool), [V.ref p] = [V.ref a] ∧ SqL K H2 a (bs.map V.bl) ∧ Q (.bl (bs.all id)) H2 := by
    intro p H2 _ e2 h2
    rw [given_all] at h2
    refine ⟨p, (itemsD d).map (fromD lo), rfl, ?_, ?_⟩
    · have e : (List.range xs.length).map (fun i => V.bl (fromD lo ((itemsD d).getD i .none))) = ((itemsD d).map (fromD lo)).map V.bl := by
        apply List.ext_getElem?
        intro i
        rw [List.getElem?_map, List.getElem?_map, List.getElem?_map]
        by_cases c : i < xs.length
        · rw [List.getElem?_range c, List.getElem?_eq_getElem (show i < (itemsD d).length by omega)]
          simp [List.getD_eq_getElem?_getD, List.getElem?_eq_getElem (show i < (itemsD d).length by omega)]
        · rw [List.getElem?_eq_none (by rw [List.length_range]; omega), List.getElem?_eq_none (show (itemsD d).length ≤ i by omega)]
          rfl
      rw [e] at h2
      exact SqL.of h2
    · rw [List.all_map]
      exact q H2 e2
  have he : ∀ (i : Nat) (x : V) (H1 : Hp), Ex H H1 → xs[i]? = some x → Ev (tCall (spIsFrom K) [] E0 (tCons (tVar 2) (tCons (tVar 1) tNil))) ((wipe (start ["values", "low", "value"] [.ref a, .int lo]) [2]).set 2 (some x)) H1 (.bl (fromD lo ((itemsD d).getD i .none))) := by
    intro i x H1 e1 hx H2 e2 Q2 k2
    have hi := (List.getElem?_eq_some_iff.mp hx).1
    have hd : (itemsD d)[i]? = some ((itemsD d)[i]'(by omega)) := List.getElem?_eq_getElem _
    have r := (all i x _ hx hd).ex (e1.trans e2)
    have g : (itemsD d).getD i .none = (itemsD d)[i]'(by omega) := by rw [List.getD_eq_getElem?_getD, hd]; rfl
    refine ⟨_, rfl, _, rfl, _, _, rfl, r.dat, fun b h1 h2 => ?_⟩
    rw [rd_from r h1 h2, ← g]
    exact k2 H2 (Ex.refl _)
  rcases hs with ⟨hs, _⟩ | ⟨hs, _⟩
  · exact .inl ((el_lcL (t := tYes) (σ := start ["values", "low", "value"] [.ref a, .int lo]) (vs := [2]) (fun _ => true) (fun i => .bl (fromD lo ((itemsD d).getD i .none))) (ev_var rfl) hs (by omega) (fun _ => rfl) (fun i x H1 _ _ H2 _ Q k => k H2 (Ex.refl _)) (fun i x H1 e1 hx _ => he i x H1 e1 hx)) H (Ex.refl _) (fun v H2 => rAll K [v] H2 Q) fin)
  · exact .inr ((el_lcT (t := tYes) (σ := start ["values", "low", "value"] [.ref a, .int lo]) (vs := [2]) (fun _ => true) (fun i => .bl (fromD lo ((itemsD d).getD i .none))) (ev_var rfl) hs (by omega) (fun _ => rfl) (fun i x H1 _ _ H2 _ Q k => k H2 (Ex.refl _)) (fun i x H1 e1 hx _ => he i x H1 e1 hx)) H (Ex.refl _) (fun v H2 => rAll K [v] H2 Q) fin)

/-- what arrangements reckons -/
def arr : Int → List Int → Int
  | _, [] => 1
  | t, p :: r => PySem.W.mcComb (t + p) p * arr (t + p) r
def arrUp (l : List Int) : Int × Int := l.foldl (fun s p => (s.1 * PySem.W.mcComb (s.2 + p) p, s.2 + p)) (1, 0)
theorem arrUp_more {l : List Int} {i : Nat} {z : Int} (h : l[i]? = some z) : arrUp (l.take (i + 1)) = ((arrUp (l.take i)).1 * PySem.W.mcComb ((arrUp (l.take i)).2 + z) z, (arrUp (l.take i)).2 + z) := by
  obtain ⟨hi, e⟩ := List.getElem?_eq_some_iff.mp h
  rw [← List.take_append_getElem hi, e]
  unfold arrUp
  rw [List.foldl_append]
  rfl
theorem arrUp_two (l : List Int) (i : Nat) : (arrUp (l.take i)).2 = (l.take i).sum := by
  have gen : ∀ (m : List Int) (s : Int × Int), (m.foldl (fun s p => (s.1 * PySem.W.mcComb (s.2 + p) p, s.2 + p)) s).2 = s.2 + m.sum := by
    intro m
    induction m with
    | nil => intro s; simp
    | cons a r ih => intro s; rw [List.foldl_cons, ih, List.sum_cons]; exact Int.add_assoc _ _ _
  have g := gen (l.take i) (1, 0)
  unfold arrUp
  rw [g]
  exact Int.zero_add _
theorem nn_sum {l : List Int} (h : ∀ n ∈ l, 0 ≤ n) : 0 ≤ l.sum := by
  induction l with
  | nil => exact Int.le_refl _
  | cons a r ih =>
    rw [List.sum_cons]
    have h1 := h a List.mem_cons_self
    have h2 := ih fun n hn => h n (List.mem_cons_of_mem _ hn)
    omega
theorem part_le {l : List Int} (h : ∀ n ∈ l, 0 ≤ n) {i : Nat} {z : Int} (hz : l[i]? = some z) : 0 ≤ z ∧ 0 ≤ (l.take i).sum ∧ (l.take i).sum + z ≤ l.sum := by
  obtain ⟨hi, e⟩ := List.getElem?_eq_some_iff.mp hz
  have h1 : 0 ≤ z := h z (e ▸ List.getElem_mem hi)
  have h2 : 0 ≤ (l.take i).sum := nn_sum fun n hn => h n (List.mem_of_mem_take hn)
  have h3 : 0 ≤ (l.drop (i + 1)).sum := nn_sum fun n hn => h n (List.mem_of_mem_drop hn)
  have h4 : l.sum = (l.take i).sum + (z + (l.drop (i + 1)).sum) := by
    conv => lhs; rw [← List.take_append_drop i l, List.drop_eq_getElem_cons hi, e]
    rw [List.sum_append, List.sum_cons]
  omega
theorem comb_lt {a b : Int} (ha : 0 ≤ a) (h : a ≤ 64) (hb : 0 ≤ b) (hb2 : b ≤ 64) : 0 ≤ PySem.W.mcComb a b ∧ PySem.W.mcComb a b < 2 ^ 64 := by
  have key : ∀ n : Fin 65, ∀ k : Fin 65, 0 ≤ PySem.W.mcComb (n.val : Int) (k.val : Int) ∧ PySem.W.mcComb (n.val : Int) (k.val : Int) < 2 ^ 64 := by decide +kernel
  have := key ⟨a.toNat, by omega⟩ ⟨b.toNat, by omega⟩
  simpa [Int.toNat_of_nonneg ha, Int.toNat_of_nonneg hb] using this

def intD : PyData → Int
  | .int i => i
  | _ => 0
def intsD (d : PyData) : List Int := (itemsD d).map intD
def partsD (d : PyData) : Bool := isSeq d && (itemsD d).all (fromD 0) && decide ((intsD d).sum ≤ 64)
theorem ints_of {ok : Addr → Prop} {H : Hp} {n : Nat} {xs : List V} : ∀ {ds : List PyData} {xs : List V} {lo : Int}, xs.length = ds.length → (∀ (i : Nat) (x : V) (e : PyData), xs[i]? = some x → ds[i]? = some e → Rd K ok H n x e) → ds.all (fromD lo) = true →
    xs = (ds.map intD).map V.int ∧ ∀ z ∈ ds.map intD, lo ≤ z := by
  intro ds
  induction ds with
  | nil => intro xs lo hl _ _; cases xs with
    | nil => exact ⟨rfl, by simp⟩
    | cons _ _ => cases hl
  | cons d r ih => intro xs lo hl h ha; cases xs with
    | nil => cases hl
    | cons x xs =>
      rw [List.all_cons, Bool.and_eq_true] at ha
      have h0 := h 0 x d rfl rfl
      obtain ⟨e, f⟩ := ih (Nat.succ.inj hl) (fun i x e hx he => h (i + 1) x e hx he) ha.2
      have ha1 := ha.1
      cases h0 with
      | int i =>
        have hi : lo ≤ i := of_decide_eq_true ha1
        refine ⟨?_, ?_⟩
        · rw [List.map_cons, List.map_cons, ← e]; rfl
        · intro z hz
          rcases List.mem_cons.mp hz with rfl | hz
          · exact hi
          · exact f z hz
      | non => cases ha1
      | bl _ => cases ha1
      | str _ _ _ => cases ha1
      | lst _ _ _ _ _ => cases ha1
      | tup _ _ _ _ _ => cases ha1
def spArr (K : PySem.W.Frag) (C : Addr) : Sp := fun vs H Q E => ∃ x d n ok, vs = [x] ∧ Rd K ok H n x d ∧
  (partsD d = true → ∀ H', Ex H H' → Q (.int (arrUp (intsD d)).1) H') ∧
  (partsD d = false → ∀ e H', Ex H H' → H' e = some (.xd [("given", x)]) → E (.ref C) (some e) H')
theorem ok_arrangements (T : TA2 K mg) : FnOk P w K mg base (L2.CX P w) 5 T.arrangements.a T.arrangements.fd ["parts"] (spArr K T.InvalidParts.C) := by
  refine T.arrangements.F.okX sc_arrangements (fun vs H Q E h => ?_) (fun cdv A outer s H vs Q E hr h => ?_)
  · obtain ⟨x, d, n, ok, rfl, _⟩ := h; rfl
  obtain ⟨x, d, n, ok, rfl, h, q1, q2⟩ := h
  refine ⟨_, (pss_cons (ps_if (PW.pt (pw_or (pt_not (pt_val (pe_call (ok_is_list T.toTA1) (hr.mono (by decide)) rfl T.is_list.m T.is_list.F.kp T.is_list.b .nil pass0 (pa_cons (pv 0) pa_nil)))) (pw_or (pt_not (pt_val (pe_call (ok_are_from T) (hr.mono (by decide)) rfl T.are_from.m T.are_from.F.kp T.are_from.b .nil pass0 (pa_cons (pv 0) (pa_cons pe_int pa_nil))))) (pw_or1 (pt_cmpR op_gt (pe_callB (ksum K rfl) (by rfl) T.z_sum (by decide +kernel) (pa_cons (pv 0) pa_nil)) (pe_glob (v := .int 64) rfl T.c_HIGHEST ⟨_, rfl⟩) (nomark _)))))) (pss_one (ps_raise rfl (takes_of rfl rfl rfl rfl) (pmk_oex T.InvalidParts.T T.InvalidParts.iC T.InvalidParts.tI (ok_init_InvalidParts T.InvalidParts) (hr.mono (by decide)) T.InvalidParts.b .nil pass0 rfl T.InvalidParts.gC (by exact (pa_cons (pv 0) pa_nil))))) pss_nil)
    (pss_cons (ps_set (i := 1) sc_arrangements.nd rfl (Or.inl rfl) pe_int)
    (pss_cons (ps_set (i := 2) sc_arrangements.nd rfl (Or.inl rfl) pe_int)
    (pss_cons (ps_for (passes_of rfl) rfl (kpis K (pv 0)) (pg_name (i := 3) sc_arrangements.nd rfl (Or.inl rfl)) (pss_cons (ps_aug (i := 2) sc_arrangements.nd rfl (Or.inl rfl) (pv 3) ip_add)
    (pss_one (ps_aug (i := 1) sc_arrangements.nd rfl (Or.inl rfl) (pe_callBfun cr_comb rfl T.c_comb (pa_cons (pv 2) (pa_cons (pv 3) pa_nil))) ip_mulC))))
    (pss_one (ps_ret (pv 1))))))), ?_⟩
  refine ⟨_, rfl, x, d, n, ok, rfl, h, fun H1 e1 => ⟨isSeq d, rfl, ?_⟩⟩
  cases sq : isSeq d with
  | false => exact ⟨_, rfl, (by show 1 ≤ 1000; decide), fun a ha => raised ha fun e H' ex he => q2 (by unfold partsD; rw [sq]; rfl) e H' (e1.trans ex) he⟩
  | true =>
  have h1 := h.ex e1
  refine ⟨_, rfl, x, d, n, ok, 0, rfl, h1, sq, fun H2 e2 => ⟨_, rfl, ?_⟩⟩
  cases al : (itemsD d).all (fromD 0) with
  | false => exact ⟨_, rfl, (by show 1 ≤ 1000; decide), fun a ha => raised ha fun e H' ex he => q2 (by unfold partsD; rw [sq, al]; rfl) e H' ((e1.trans e2).trans ex) he⟩
  | true =>
  obtain ⟨a, xs, rfl, hs, hl, hz, all⟩ := rd_seq (h1.ex e2) sq
  obtain ⟨hxs, hall⟩ := ints_of (xs := xs) hl all al
  have e12 := e1.trans e2
  obtain ⟨ns, hns⟩ : ∃ ns, ns = intsD d := ⟨_, rfl⟩
  have hxs' : xs = ns.map V.int := by rw [hns]; exact hxs
  rw [hxs'] at hs
  have exs : SqL K H2 a (ns.map V.int) ∨ SqT K H2 a (ns.map V.int) := hs.imp (fun z => z.1) (fun z => z.1)
  have hall : ∀ z ∈ ns, 0 ≤ z := by rw [hns]; exact hall
  refine ⟨_, rfl, a, ns, rfl, exs, _, _, rfl, rfl, _, rfl, ite2 (fun c => ?_) (fun c => ?_)⟩
  · have c' : ¬ ns.sum ≤ 64 := by have := of_decide_eq_true c; omega
    exact ⟨_, rfl, (by show 1 ≤ 1000; decide), fun x hx => raised hx fun e H' ex he => q2 (by unfold partsD; rw [sq, al, ← hns, decide_eq_false c']; rfl) e H' (e12.trans ex) he⟩
  · have c' : ns.sum ≤ 64 := by
      have := of_decide_eq_false (Bool.eq_false_iff.mpr c)
      omega
    have okp : partsD d = true := by unfold partsD; rw [sq, al, ← hns, decide_eq_true c']; rfl
    rw [← hns] at q1
    have turn : ∀ (i : Nat) (x : V) (σ : L2.St), (ns.map V.int)[i]? = some x → (∃ v, σ = [some (.ref a), some (.int (arrUp (ns.take i)).1), some (.int (arrUp (ns.take i)).2), v]) →
        gName 3 x σ H2 fun σ2 H3 => tSeq (tAug 2 (tVar 3) (ipI fun i j => i + j)) (tAug 1 (tCB rComb (tCons (tVar 2) (tCons (tVar 3) tNil))) (fun x y H Q => ∃ i j, x = .int i ∧ y = .int j ∧ CMul i j ∧ Q (.int (i * j)) H))
          { nx := fun σ' H' => H' = H2 ∧ ∃ v, σ' = [some (.ref a), some (.int (arrUp (ns.take (i + 1))).1), some (.int (arrUp (ns.take (i + 1))).2), v], rt := Q } σ2 H3 := by
      rintro i x σ hx ⟨v, rfl⟩
      obtain ⟨z, hz, rfl⟩ := ints_get hx
      have hp := part_le hall hz
      have hm := arrUp_more hz
      have h2 := arrUp_two ns i
      have hc := @comb_lt ((arrUp (ns.take i)).2 + z) z (by omega) (by omega) hp.1 (by omega)
      refine ⟨_, rfl, _, rfl, _, _, rfl, rfl, ?_⟩
      refine ⟨_, rfl, _, rfl, _, rfl, _, _, rfl, (show 0 ≤ (arrUp (ns.take i)).2 + z by omega), (show (arrUp (ns.take i)).2 + z ≤ 1000 by omega), hp.1, by omega, _, _, rfl, rfl, .inr ⟨(show -(2 ^ 64) < PySem.W.mcComb ((arrUp (ns.take i)).2 + z) z by omega), hc.2⟩, rfl, some (.int z), ?_⟩
      rw [hm]
      rfl
    have fin : ∀ σ H', (H' = H2 ∧ ∃ v, σ = [some (.ref a), some (.int (arrUp (ns.take (ns.map V.int).length)).1), some (.int (arrUp (ns.take (ns.map V.int).length)).2), v]) → tRet (tVar 1) { nx := fun _ H' => Q .non H', rt := Q } σ H' := by
      rintro σ H' ⟨rfl, v, rfl⟩
      rw [List.length_map, List.take_length]
      exact ⟨_, rfl, q1 okp _ e12⟩
    rcases exs with hs2 | hs2
    · exact .inl ⟨_, rfl, a, rfl, ⟨_, hs2⟩, for_list (xs := ns.map V.int) (fun i σ H' => H' = H2 ∧ ∃ v, σ = [some (.ref a), some (.int (arrUp (ns.take i)).1), some (.int (arrUp (ns.take i)).2), v]) ⟨rfl, none, rfl⟩
        (fun i σ H' _ ⟨e, _⟩ => e ▸ hs2) (fun i x σ H' hx ⟨e, hv⟩ => e ▸ turn i x σ hx hv) fin⟩
    · exact .inr ⟨_, rfl, a, rfl, ⟨_, hs2⟩, for_tup (xs := ns.map V.int) (fun i σ H' => H' = H2 ∧ ∃ v, σ = [some (.ref a), some (.int (arrUp (ns.take i)).1), some (.int (arrUp (ns.take i)).2), v]) ⟨rfl, none, rfl⟩
        (fun i σ H' _ ⟨e, _⟩ => e ▸ hs2) (fun i x σ H' hx ⟨e, hv⟩ => e ▸ turn i x σ hx hv) fin⟩


theorem even_sum {i j : Int} (h0 : 0 ≤ i) (hj : 1 ≤ j) : (evenOf i j).length = j.toNat ∧ (evenOf i j).sum = i ∧ ∀ x ∈ evenOf i j, 0 ≤ x := by
  have d2 : i / j * j ≤ i := Int.ediv_mul_le _ (by omega)
  have d0 : 0 ≤ i / j := Int.ediv_nonneg h0 (by omega)
  have d3 : i - i / j * j < j := by
    have := Int.lt_ediv_add_one_mul_self i (show 0 < j by omega)
    have e : (i / j + 1) * j = i / j * j + j := by rw [Int.add_mul, Int.one_mul]
    omega
  generalize hg : i - i / j * j = g at *
  have sums : ∀ (n : Nat) (x : Int), (List.replicate n x).sum = n * x := by
    intro n x
    induction n with
    | zero => simp
    | succ n ih => rw [List.replicate_succ, List.sum_cons, ih]; rw [Int.natCast_succ, Int.add_mul, Int.one_mul, Int.add_comm]
  unfold evenOf
  rw [hg]
  refine ⟨by rw [List.length_append, List.length_replicate, List.length_replicate]; omega, ?_, ?_⟩
  · rw [List.sum_append, sums, sums, Int.toNat_of_nonneg (by omega), Int.toNat_of_nonneg (by omega), Int.mul_add, Int.sub_mul, Int.mul_one, Int.mul_comm j]
    omega
  · intro x hx
    rw [List.mem_append] at hx
    rcases hx with hx | hx
    · rw [List.eq_of_mem_replicate hx]; omega
    · rw [List.eq_of_mem_replicate hx]; omega


theorem rdl_ints {ok : Addr → Prop} {H : Hp} {n : Nat} (ns : List Int) : RdL K ok H n (ns.map V.int) (ns.map PyData.int) := by
  refine ⟨by rw [List.length_map, List.length_map], fun i x d hx hd => ?_⟩
  obtain ⟨z, hz, rfl⟩ := ints_get hx
  rw [List.getElem?_map, hz] at hd
  obtain rfl := Option.some.inj hd
  exact .int z
/-- the greatest arrangements of i kinds in j parts -/
def gr (i j : Int) : Int := (arrUp (evenOf i j)).1
theorem ints_dat (ns : List Int) : intsD (.tuple (ns.map PyData.int)) = ns := by
  unfold intsD itemsD
  rw [List.map_map]
  exact List.map_id _
theorem parts_dat {ns : List Int} (h0 : ∀ x ∈ ns, 0 ≤ x) (h : ns.sum ≤ 64) : partsD (.tuple (ns.map PyData.int)) = true := by
  unfold partsD
  rw [ints_dat, decide_eq_true h, Bool.and_true]
  show (true && (ns.map PyData.int).all (fromD 0)) = true
  rw [Bool.true_and, List.all_eq_true]
  intro x hx
  obtain ⟨z, hz, rfl⟩ := List.mem_map.mp hx
  exact decide_eq_true (h0 z hz)
def spGr : Sp := fun vs H Q _ => ∃ i j : Int, vs = [.int i, .int j] ∧ 0 ≤ i ∧ i ≤ 64 ∧ 1 ≤ j ∧ j ≤ 64 ∧ ∀ H', Ex H H' → Q (.int (gr i j)) H'
theorem ok_greatest_by (T : TA2 K mg) : FnOk P w K mg base (L2.CX P w) 6 T.greatest_by.a T.greatest_by.fd ["kinds", "parts"] spGr := by
  refine T.greatest_by.F.okX sc_greatest_by (fun vs H Q E h => ?_) (fun cdv A outer s H vs Q E hr h => ?_)
  · obtain ⟨i, j, rfl, _⟩ := h; rfl
  obtain ⟨i, j, rfl, i0, i1, j0, j1, q⟩ := h
  refine ⟨_, (pss_one (ps_ret (by exact (pe_callS (ok_arrangements T) (hr.mono (by decide)) rfl T.arrangements.m T.arrangements.F.kp T.arrangements.b (fun σ => passAt (takes_of rfl rfl rfl rfl) σ) (pa_cons (by exact (pe_callS (ok_even_parts T) (hr.mono (by decide)) rfl T.even_parts.m T.even_parts.F.kp T.even_parts.b (fun σ => passAt (takes_of rfl rfl rfl rfl) σ) (pa_cons (pv 0) (pa_cons (pv 1) pa_nil)))) pa_nil))))), ?_⟩
  have ni : num64 (.int i) = true := decide_eq_true ⟨i0, i1⟩
  have nj : many64 (.int j) = true := decide_eq_true ⟨j0, j1⟩
  obtain ⟨el, es, e0⟩ := even_sum i0 j0
  refine ⟨_, rfl, _, rfl, _, _, .int i, .int j, 0, fun _ => True, rfl, .int i, .int j, fun _ _ p H1 e1 hp => ?_, fun no => absurd ni (by rw [no]; decide), fun _ no => absurd nj (by rw [no]; decide)⟩
  have hp' := hp i j rfl rfl
  have rd := rdl_ints (K := K) (ok := fun _ => True) (H := H1) (n := 0) (evenOf i j)
  have pd := parts_dat e0 (by rw [es]; exact i1)
  refine ⟨_, .tuple ((evenOf i j).map PyData.int), 1, fun _ => True, rfl, .tup hp' trivial rd.1 (by rw [List.length_map, el]; omega) rd.2, fun _ H2 e2 => ?_, fun no => absurd pd (by rw [no]; decide)⟩
  rw [ints_dat]
  exact q H2 (e1.trans e2)
def goodV : V → Bool
  | .int i => decide (2 ≤ i ∧ i ≤ 16)
  | _ => false
theorem good_b {x : V} {b : Bool} (h1 : ∀ i, x = .int i → b = decide (2 ≤ i ∧ i ≤ 16)) (h2 : isI x = false → b = false) : b = goodV x := by
  cases x <;> first | exact h1 _ rfl | exact h2 rfl
theorem good_int {x : V} (h : goodV x = true) : ∃ i, x = .int i ∧ 2 ≤ i ∧ i ≤ 16 := by
  cases x <;> first | exact ⟨_, rfl, of_decide_eq_true h⟩ | cases h
def spCk (K : PySem.W.Frag) (C D : Addr) : Sp := fun vs H Q E => ∃ x y, vs = [x, y, .int 16] ∧ Dat K H x ∧ Dat K H y ∧ (goodV x = true → goodV y = true → Q .non H) ∧
  (goodV x = false → ∀ e H', Ex H H' → H' e = some (.xd [("given", x)]) → E (.ref C) (some e) H') ∧
  (goodV x = true → goodV y = false → ∀ e H', Ex H H' → H' e = some (.xd [("given", y)]) → E (.ref D) (some e) H')
theorem ok_check_kinds (T : TA2 K mg) : FnOk P w K mg base (L2.CX P w) 4 T.check_kinds.a T.check_kinds.fd ["own", "other", "most"] (spCk K T.InvalidOwn.C T.InvalidOther.C) := by
  refine T.check_kinds.F.okX sc_check_kinds (fun vs H Q E h => ?_) (fun cdv A outer s H vs Q E hr h => ?_)
  · obtain ⟨x, y, rfl, _⟩ := h; rfl
  obtain ⟨x, y, rfl, dx, dy, q1, q2, q3⟩ := h
  refine ⟨_, (pss_cons (ps_if (pt_not (pt_val (pe_call (ok_is_between T.toTA1) (hr.mono (by decide)) rfl T.is_between.m T.is_between.F.kp T.is_between.b .nil pass0 (pa_cons (pv 0) (pa_cons (pe_glob (v := .int 2) rfl T.c_FEWEST_KINDS ⟨_, rfl⟩) (pa_cons (pv 2) pa_nil)))))) (pss_one (ps_raise rfl (takes_of rfl rfl rfl rfl) (pmk_oex T.InvalidOwn.T T.InvalidOwn.iC T.InvalidOwn.tI (ok_init_InvalidOwn T.InvalidOwn) (hr.mono (by decide)) T.InvalidOwn.b .nil pass0 rfl T.InvalidOwn.gC (by exact (pa_cons (pv 0) pa_nil))))) pss_nil)
    (pss_one (ps_if (pt_not (pt_val (pe_call (ok_is_between T.toTA1) (hr.mono (by decide)) rfl T.is_between.m T.is_between.F.kp T.is_between.b .nil pass0 (pa_cons (pv 1) (pa_cons (pe_glob (v := .int 2) rfl T.c_FEWEST_KINDS ⟨_, rfl⟩) (pa_cons (pv 2) pa_nil)))))) (pss_one (ps_raise rfl (takes_of rfl rfl rfl rfl) (pmk_oex T.InvalidOther.T T.InvalidOther.iC T.InvalidOther.tI (ok_init_InvalidOther T.InvalidOther) (hr.mono (by decide)) T.InvalidOther.b .nil pass0 rfl T.InvalidOther.gC (by exact (pa_cons (pv 1) pa_nil))))) pss_nil))), ?_⟩
  refine ⟨_, rfl, _, rfl, _, _, _, rfl, dx, fun b h1 h2 => ⟨b, rfl, ?_⟩⟩
  have hb := good_b h1 h2
  subst hb
  cases c : goodV x with
  | false => exact ⟨_, rfl, (by show 1 ≤ 1000; decide), fun a ha => raised ha fun e H' ex he => q2 c e H' ex he⟩
  | true =>
    refine ⟨_, rfl, _, rfl, _, _, _, rfl, dy, fun b h1 h2 => ⟨b, rfl, ?_⟩⟩
    have hb := good_b h1 h2
    subst hb
    cases c2 : goodV y with
    | false => exact ⟨_, rfl, (by show 1 ≤ 1000; decide), fun a ha => raised ha fun e H' ex he => q3 c c2 e H' ex he⟩
    | true => exact q1 c c2
def spBoth (K : PySem.W.Frag) (C D : Addr) (mo : Int) : Sp := fun vs H Q E => ∃ x y, vs = [x, y] ∧ Dat K H x ∧ Dat K H y ∧
  (∀ i j, x = .int i → y = .int j → 2 ≤ i ∧ i ≤ 16 → 2 ≤ j ∧ j ≤ 16 → ∀ p H', Ex H H' → H' p = some (.tup [.int (gr i (j + mo)), .int (gr j (i + mo))]) → Q (.ref p) H') ∧
  (goodV x = false → ∀ e H', Ex H H' → H' e = some (.xd [("given", x)]) → E (.ref C) (some e) H') ∧
  (goodV x = true → goodV y = false → ∀ e H', Ex H H' → H' e = some (.xd [("given", y)]) → E (.ref D) (some e) H')

theorem ok_both (T : TA2 K mg) : FnOk P w K mg base (L2.CX P w) 7 T.both.a T.both.fd ["own", "other"] (spBoth K T.InvalidOwn.C T.InvalidOther.C 2) := by
  refine T.both.F.okX sc_both (fun vs H Q E h => ?_) (fun cdv A outer s H vs Q E hr h => ?_)
  · obtain ⟨x, y, rfl, _⟩ := h; rfl
  obtain ⟨x, y, rfl, dx, dy, q1, q2, q3⟩ := h
  refine ⟨_, (pss_cons (ps_expr (by exact (pe_callS (ok_check_kinds T) (hr.mono (by decide)) rfl T.check_kinds.m T.check_kinds.F.kp T.check_kinds.b (fun σ => passAt (takes_of rfl rfl rfl rfl) σ) (pa_cons (pv 0) (pa_cons (pv 1) (pa_cons (pe_glob (v := .int 16) rfl T.c_MOST_KINDS ⟨_, rfl⟩) pa_nil))))))
    (pss_one (ps_ret (pe_tup (pa_cons (by exact (pe_callS (ok_greatest_by T) (hr.mono (by decide)) rfl T.greatest_by.m T.greatest_by.F.kp T.greatest_by.b (fun σ => passAt (takes_of rfl rfl rfl rfl) σ) (pa_cons (pv 0) (pa_cons (pe_op op_add (pv 1) pe_int) pa_nil)))) (pa_cons (by exact (pe_callS (ok_greatest_by T) (hr.mono (by decide)) rfl T.greatest_by.m T.greatest_by.F.kp T.greatest_by.b (fun σ => passAt (takes_of rfl rfl rfl rfl) σ) (pa_cons (pv 1) (pa_cons (pe_op op_add (pv 0) pe_int) pa_nil)))) pa_nil)))))), ?_⟩
  refine ⟨_, rfl, _, rfl, x, y, rfl, dx, dy, fun c c2 => ?_, fun no => q2 no, fun c no => q3 c no⟩
  obtain ⟨i, rfl, i0⟩ := good_int c
  obtain ⟨j, rfl, j0⟩ := good_int c2
  refine ⟨_, rfl, _, rfl, _, _, rfl, rfl, i, j + 2, rfl, by omega, by omega, by omega, by omega, fun H1 e1 => ?_⟩
  refine ⟨_, rfl, _, rfl, _, _, rfl, rfl, j, i + 2, rfl, by omega, by omega, by omega, by omega, fun H2 e2 => ?_⟩
  exact ⟨(by show 2 ≤ sizeLine; decide), fun p hp => q1 i j rfl rfl i0 j0 p _ ((e1.trans e2).trans (Ex.new hp)) upd_same⟩
theorem ok_both_known (T : TA2 K mg) : FnOk P w K mg base (L2.CX P w) 7 T.both_known.a T.both_known.fd ["own", "other"] (spBoth K T.InvalidOwn.C T.InvalidOther.C 1) := by
  refine T.both_known.F.okX sc_both_known (fun vs H Q E h => ?_) (fun cdv A outer s H vs Q E hr h => ?_)
  · obtain ⟨x, y, rfl, _⟩ := h; rfl
  obtain ⟨x, y, rfl, dx, dy, q1, q2, q3⟩ := h
  refine ⟨_, (pss_cons (ps_expr (by exact (pe_callS (ok_check_kinds T) (hr.mono (by decide)) rfl T.check_kinds.m T.check_kinds.F.kp T.check_kinds.b (fun σ => passAt (takes_of rfl rfl rfl rfl) σ) (pa_cons (pv 0) (pa_cons (pv 1) (pa_cons (pe_glob (v := .int 16) rfl T.c_MOST_KINDS ⟨_, rfl⟩) pa_nil))))))
    (pss_one (ps_ret (pe_tup (pa_cons (by exact (pe_callS (ok_greatest_by T) (hr.mono (by decide)) rfl T.greatest_by.m T.greatest_by.F.kp T.greatest_by.b (fun σ => passAt (takes_of rfl rfl rfl rfl) σ) (pa_cons (pv 0) (pa_cons (pe_op op_add (pv 1) pe_int) pa_nil)))) (pa_cons (by exact (pe_callS (ok_greatest_by T) (hr.mono (by decide)) rfl T.greatest_by.m T.greatest_by.F.kp T.greatest_by.b (fun σ => passAt (takes_of rfl rfl rfl rfl) σ) (pa_cons (pv 1) (pa_cons (pe_op op_add (pv 0) pe_int) pa_nil)))) pa_nil)))))), ?_⟩
  refine ⟨_, rfl, _, rfl, x, y, rfl, dx, dy, fun c c2 => ?_, fun no => q2 no, fun c no => q3 c no⟩
  obtain ⟨i, rfl, i0⟩ := good_int c
  obtain ⟨j, rfl, j0⟩ := good_int c2
  refine ⟨_, rfl, _, rfl, _, _, rfl, rfl, i, j + 1, rfl, by omega, by omega, by omega, by omega, fun H1 e1 => ?_⟩
  refine ⟨_, rfl, _, rfl, _, _, rfl, rfl, j, i + 1, rfl, by omega, by omega, by omega, by omega, fun H2 e2 => ?_⟩
  exact ⟨(by show 2 ≤ sizeLine; decide), fun p hp => q1 i j rfl rfl i0 j0 p _ ((e1.trans e2).trans (Ex.new hp)) upd_same⟩
end
end L2.U

set_option Elab.async false
set_option linter.all false
set_option maxRecDepth 100000
set_option maxHeartbeats 4000000
namespace L2.U
open PySem PySem.Spec PyProof.Rows Evl

abbrev s_law_most : Stmt := top 33
theorem sc_law_most : FnScope ["rows", "n", "last", "k", "found", "size"] [] (defScope s_law_most) := ⟨rfl, rfl, rfl, by decide +kernel, rfl, by decide +kernel, by decide +kernel⟩
abbrev s_law_told : Stmt := top 34
theorem sc_law_told : FnScope ["known", "named", "own", "other", "error"] ["known", "named", "own", "other"] (defScope s_law_told) := ⟨rfl, rfl, rfl, by decide +kernel, rfl, by decide +kernel, by decide +kernel⟩
abbrev s_law_is_good : Stmt := top 35
theorem sc_law_is_good : FnScope ["thing"] ["thing"] (defScope s_law_is_good) := ⟨rfl, rfl, rfl, by decide +kernel, rfl, by decide +kernel, by decide +kernel⟩
abbrev s_law_right : Stmt := top 36
theorem sc_law_right : FnScope ["most", "known", "named", "own", "other", "more", "due", "passed", "at", "told", "one"] ["most", "known", "named", "own", "other"] (defScope s_law_right) := ⟨rfl, rfl, rfl, by decide +kernel, rfl, by decide +kernel, by decide +kernel⟩
abbrev s_law_odd : Stmt := top 37
theorem sc_law_odd : FnScope ["box", "good", "menu"] ["box", "good"] (defScope s_law_odd) := ⟨rfl, rfl, rfl, by decide +kernel, rfl, by decide +kernel, by decide +kernel⟩
abbrev s_law : Stmt := top 38
theorem sc_law : FnScope ["script", "most", "k", "box", "named", "turn", "way", "own", "other", "known", "odd", "second", "pairs", "one"] ["script"] (defScope s_law) := ⟨rfl, rfl, rfl, by decide +kernel, rfl, by decide +kernel, by decide +kernel⟩
structure TK (K : PySem.W.Frag) (mg : Str → Option Value) extends TA2 K mg where
  law_most : DefAt K mg "_law_most" s_law_most []
  law_told : DefAt K mg "_law_told" s_law_told ["known", "named", "own", "other"]
  law_is_good : DefAt K mg "_law_is_good" s_law_is_good ["thing"]
  law_right : DefAt K mg "_law_right" s_law_right ["most", "known", "named", "own", "other"]
  law_odd : DefAt K mg "_law_odd" s_law_odd ["box", "good"]
  law : DefAt K mg "law" s_law ["script"]
  kb_both_other_own : KBinds K both.fd ["own", "other"] ["other", "own"] kw21 kw21
  kb_both_known_other_own : KBinds K both_known.fd ["own", "other"] ["other", "own"] kw21 kw21
  TalkError_C : Addr
  TalkError_gC : mg "TalkError" = some (.ref TalkError_C)
  eOO : PySem.W.exmOne K (.ref InvalidOwn.C) (.ref InvalidOwn.C) = some true
  eTO : PySem.W.exmOne K (.ref InvalidOther.C) (.ref InvalidOwn.C) = some false
  eTT : PySem.W.exmOne K (.ref InvalidOther.C) (.ref InvalidOther.C) = some true
  z_dict : mg "dict" = none
  z_max : mg "max" = none
  z_min : mg "min" = none
section
variable {P : Program} {w : World} {K : PySem.W.Frag} {mg : Str → Option Value} {base : Heap}
theorem two_le : 2 ≤ sizeLine := by decide
section
variable {X : Cx}
theorem kmax (K : PySem.W.Frag) (hc : X.calm = true) (h : X.K = K := by rfl) : CallR X (.builtin "max") (rMax K) := by subst h; exact cr_max hc
end
def spGood (K : PySem.W.Frag) : Sp := fun vs H Q _ => ∃ x, vs = [x] ∧ Dat K H x ∧ Q (.bl (goodV x)) H
theorem goodV_no {x : V} (h : isI x = false) : goodV x = false := by
  cases x <;> first | rfl | cases h
theorem ok_law_is_good (T : TK K mg) : FnOk P w K mg base CX0 1 T.law_is_good.a T.law_is_good.fd ["thing"] (spGood K) := by
  refine T.law_is_good.F.ok sc_law_is_good (fun vs H Q E h => ?_) (fun cdv A outer s H vs Q E hr h => ?_)
  · obtain ⟨x, rfl, _⟩ := h; rfl
  obtain ⟨x, rfl, ⟨t, ht, ty, hi⟩, q⟩ := h
  refine ⟨_, (pss_one (ps_ret (pe_and (pe_callB (kisi K) (by rfl) T.z_isinstance (by decide +kernel) (pa_cons (pv 0) (pa_cons (pe_bltn (v := .ty "int") rfl T.z_int (by decide +kernel) rfl) pa_nil))) (pe_and (pe_not (pe_callB (kisi K) (by rfl) T.z_isinstance (by decide +kernel) (pa_cons (pv 0) (pa_cons (pe_bltn (v := .ty "bool") rfl T.z_bool (by decide +kernel) rfl) pa_nil)))) (pe_one (pe_chain op_le op_le pe_int (pv 0) pe_int)))))), ?_⟩
  simp only [List.mem_cons, List.not_mem_nil, or_false] at ht
  rcases ht with rfl | rfl | rfl | rfl | rfl | rfl | rfl
  · rw [goodV_no hi] at q
    exact ⟨_, rfl, _, _, _, _, _, rfl, .ty "int", ty, kit_ty (r := false) (by decide +kernel), false, rfl, iteF q⟩
  · rw [goodV_no hi] at q
    refine ⟨_, rfl, _, _, _, _, _, rfl, .ty "int", ty, kit_ty (r := true) (by decide +kernel), true, rfl, iteT ?_⟩
    exact ⟨_, rfl, _, _, _, _, _, rfl, .ty "bool", ty, kit_ty (r := true) (by decide +kernel), true, rfl, false, rfl, iteF q⟩
  · obtain ⟨i, rfl⟩ := isI_int (x := x) hi
    refine ⟨_, rfl, _, _, _, _, _, rfl, .ty "int", ty, kit_ty (r := true) (by decide +kernel), true, rfl, iteT ?_⟩
    refine ⟨_, rfl, _, _, _, _, _, rfl, .ty "bool", ty, kit_ty (r := false) (by decide +kernel), false, rfl, true, rfl, iteT ?_⟩
    refine ⟨_, rfl, _, _, rfl, rfl, _, rfl, ite2 (fun c => ?_) (fun c => ?_)⟩
    · have c' := of_decide_eq_true c
      refine ⟨_, _, rfl, rfl, ?_⟩
      have e : goodV (.int i) = decide (i ≤ 16) := by show decide (2 ≤ i ∧ i ≤ 16) = _; simp [c']
      rw [e] at q
      exact q
    · have c' := of_decide_eq_false (Bool.eq_false_iff.mpr c)
      rw [show goodV (.int i) = false by show decide (2 ≤ i ∧ i ≤ 16) = false; simp [c']] at q
      exact q
  all_goals
    rw [goodV_no hi] at q
    exact ⟨_, rfl, _, _, _, _, _, rfl, .ty "int", ty, kit_ty (r := false) (by decide +kernel), false, rfl, iteF q⟩
def spTold (K : PySem.W.Frag) : Sp := fun vs H Q _ => ∃ (kn : Bool) (nm : Int) (x y : V), vs = [.bl kn, .int nm, x, y] ∧ Dat K H x ∧ Dat K H y ∧
  (∀ i j, x = .int i → y = .int j → 2 ≤ i ∧ i ≤ 16 → 2 ≤ j ∧ j ≤ 16 → ∀ p t H', Ex H H' → H' p = some (.tup [.int (gr i (j + if kn then 1 else 2)), .int (gr j (i + if kn then 1 else 2))]) → H' t = some (.tup [.str "told", .ref p]) → Q (.ref t) H') ∧
  (goodV x = false → ∀ t H', Ex H H' → H' t = some (.tup [.str "own", x]) → Q (.ref t) H') ∧
  (goodV x = true → goodV y = false → ∀ t H', Ex H H' → H' t = some (.tup [.str "other", y]) → Q (.ref t) H')
theorem ok_law_told (T : TK K mg) : FnOk P w K mg base CX0 8 T.law_told.a T.law_told.fd ["known", "named", "own", "other"] (spTold K) := by
  refine T.law_told.F.ok sc_law_told (fun vs H Q E h => ?_) (fun cdv A outer s H vs Q E hr h => ?_)
  · obtain ⟨kn, nm, x, y, rfl, _⟩ := h; rfl
  obtain ⟨kn, nm, x, y, rfl, dx, dy, q1, q2, q3⟩ := h
  refine ⟨_, (pss_one (ps_tryC rfl rfl takes0 (fun W pn xe tk _ => (pss_cons (ps_if (pt_val (pv 0)) (pss_one (ps_ret (pe_tup (pa_cons pe_str (pa_cons (pe_ifExp (pt_cmpR op_eq (pv 1) pe_int (nomark _)) (by exact (pe_callS (ok_both_known T.toTA2) (hr.mono (by decide)) rfl T.both_known.m T.both_known.F.kp T.both_known.b (fun σ => passAt tk σ) (pa_cons (pv 2) (pa_cons (pv 3) pa_nil)))) (by exact (pe_callKw (ok_both_known T.toTA2) (hr.mono (by decide)) rfl T.both_known.m T.both_known.F.kp T.kb_both_known_other_own (fun σ => passAt tk σ) (pk_cons (pv 3) (pk_cons (pv 2) pk_nil))))) pa_nil))))) pss_nil)
    (pss_one (ps_ret (pe_tup (pa_cons pe_str (pa_cons (pe_ifExp (pt_cmpR op_eq (pv 1) pe_int (nomark _)) (by exact (pe_callS (ok_both T.toTA2) (hr.mono (by decide)) rfl T.both.m T.both.F.kp T.both.b (fun σ => passAt tk σ) (pa_cons (pv 2) (pa_cons (pv 3) pa_nil)))) (by exact (pe_callKw (ok_both T.toTA2) (hr.mono (by decide)) rfl T.both.m T.both.F.kp T.kb_both_other_own (fun σ => passAt tk σ) (pk_cons (pv 3) (pk_cons (pv 2) pk_nil))))) pa_nil))))))) (ClausesOk.cons (ClauseOk.named (i := 4) sc_law_told.nd rfl rfl ⟨rfl, by decide, Or.inl T.InvalidOwn.gC⟩ (fun a oe cls d pn hz hf => (pss_one (ps_ret (pe_tup (pa_cons pe_str (pa_cons (pe_xf T.InvalidOwn.xf T.InvalidOwn.nf hz hf (pv 4)) pa_nil)))))))
     (ClausesOk.cons (ClauseOk.named (i := 4) sc_law_told.nd rfl rfl ⟨rfl, by decide, Or.inl T.InvalidOther.gC⟩ (fun a oe cls d pn hz hf => (pss_one (ps_ret (pe_tup (pa_cons pe_str (pa_cons (pe_xf T.InvalidOther.xf T.InvalidOther.nf hz hf (pv 4)) pa_nil)))))))
     (ClausesOk.cons (ClauseOk.bare ⟨rfl, by decide, Or.inl T.TalkError_gC⟩ (fun a oe cls d pn hz hf => (pss_one (ps_ret (pe_tup (pa_cons pe_str (pa_cons pe_non pa_nil)))))))
     ClausesOk.nil))))), ?_⟩
  have g2 : ∀ (c : goodV x = false) (d : Addr) (H1 : Hp), Ex H H1 → H1 d = some (.xd [("given", x)]) → ∀ t, H1 t = none → Q (.ref t) (upd H1 t (.tup [.str "own", x])) := fun c d H1 e1 hd t ht => q2 c t _ (e1.trans (Ex.new ht)) upd_same
  have g3 : ∀ (c : goodV x = true) (c2 : goodV y = false) (d : Addr) (H1 : Hp), Ex H H1 → H1 d = some (.xd [("given", y)]) → ∀ t, H1 t = none → Q (.ref t) (upd H1 t (.tup [.str "other", y])) := fun c c2 d H1 e1 hd t ht => q3 c c2 t _ (e1.trans (Ex.new ht)) upd_same
  cases kn with
  | true =>
    refine ⟨_, rfl, _, rfl, iteT ⟨_, rfl, rfl, _, rfl, ite2 (fun _ => ?_) (fun _ => ?_)⟩⟩
    · refine ⟨_, rfl, _, rfl, x, y, rfl, dx, dy, fun i j ei ej hi hj p H1 e1 hp => ⟨two_le, fun t ht => q1 i j ei ej hi hj p t _ (e1.trans (Ex.new ht)) ((Ex.new ht) _ _ hp) upd_same⟩, fun c d H1 e1 hd => ?_, fun c c2 d H1 e1 hd => ?_⟩
      · exact ⟨true, T.eOO, fun _ u hu => ⟨_, rfl, rfl, rfl, d, _, _, rfl, hd, rfl, two_le, fun t ht => g2 c d H1 e1 hd t ht⟩, fun z => nomatch z⟩
      · exact ⟨false, T.eTO, (fun z => nomatch z), fun _ => ⟨true, T.eTT, fun _ u hu => ⟨_, rfl, rfl, rfl, d, _, _, rfl, hd, rfl, two_le, fun t ht => g3 c c2 d H1 e1 hd t ht⟩, fun z => nomatch z⟩⟩
    · refine ⟨_, rfl, _, rfl, x, y, rfl, dx, dy, fun i j ei ej hi hj p H1 e1 hp => ⟨two_le, fun t ht => q1 i j ei ej hi hj p t _ (e1.trans (Ex.new ht)) ((Ex.new ht) _ _ hp) upd_same⟩, fun c d H1 e1 hd => ?_, fun c c2 d H1 e1 hd => ?_⟩
      · exact ⟨true, T.eOO, fun _ u hu => ⟨_, rfl, rfl, rfl, d, _, _, rfl, hd, rfl, two_le, fun t ht => g2 c d H1 e1 hd t ht⟩, fun z => nomatch z⟩
      · exact ⟨false, T.eTO, (fun z => nomatch z), fun _ => ⟨true, T.eTT, fun _ u hu => ⟨_, rfl, rfl, rfl, d, _, _, rfl, hd, rfl, two_le, fun t ht => g3 c c2 d H1 e1 hd t ht⟩, fun z => nomatch z⟩⟩
  | false =>
    refine ⟨_, rfl, _, rfl, iteF ⟨_, rfl, rfl, _, rfl, ite2 (fun _ => ?_) (fun _ => ?_)⟩⟩
    · refine ⟨_, rfl, _, rfl, x, y, rfl, dx, dy, fun i j ei ej hi hj p H1 e1 hp => ⟨two_le, fun t ht => q1 i j ei ej hi hj p t _ (e1.trans (Ex.new ht)) ((Ex.new ht) _ _ hp) upd_same⟩, fun c d H1 e1 hd => ?_, fun c c2 d H1 e1 hd => ?_⟩
      · exact ⟨true, T.eOO, fun _ u hu => ⟨_, rfl, rfl, rfl, d, _, _, rfl, hd, rfl, two_le, fun t ht => g2 c d H1 e1 hd t ht⟩, fun z => nomatch z⟩
      · exact ⟨false, T.eTO, (fun z => nomatch z), fun _ => ⟨true, T.eTT, fun _ u hu => ⟨_, rfl, rfl, rfl, d, _, _, rfl, hd, rfl, two_le, fun t ht => g3 c c2 d H1 e1 hd t ht⟩, fun z => nomatch z⟩⟩
    · refine ⟨_, rfl, _, rfl, x, y, rfl, dx, dy, fun i j ei ej hi hj p H1 e1 hp => ⟨two_le, fun t ht => q1 i j ei ej hi hj p t _ (e1.trans (Ex.new ht)) ((Ex.new ht) _ _ hp) upd_same⟩, fun c d H1 e1 hd => ?_, fun c c2 d H1 e1 hd => ?_⟩
      · exact ⟨true, T.eOO, fun _ u hu => ⟨_, rfl, rfl, rfl, d, _, _, rfl, hd, rfl, two_le, fun t ht => g2 c d H1 e1 hd t ht⟩, fun z => nomatch z⟩
      · exact ⟨false, T.eTO, (fun z => nomatch z), fun _ => ⟨true, T.eTT, fun _ u hu => ⟨_, rfl, rfl, rfl, d, _, _, rfl, hd, rfl, two_le, fun t ht => g3 c c2 d H1 e1 hd t ht⟩, fun z => nomatch z⟩⟩
end
end L2.U


set_option Elab.async false
set_option linter.all false
set_option maxRecDepth 100000
set_option maxHeartbeats 4000000
namespace L2.U
open PySem PySem.Spec PyProof.Rows Evl

/-! ### the own table -/
def rowUp (l : List Int) : List Int := [1] ++ List.zipWith (fun a b => a + b) l l.tail ++ [1]
def row : Nat → List Int
  | 0 => [1]
  | n + 1 => rowUp (row n)
theorem row_len : ∀ n, (row n).length = n + 1
  | 0 => rfl
  | n + 1 => by
    have ih := row_len n
    show ([1] ++ List.zipWith (fun a b => a + b) (row n) (row n).tail ++ [1]).length = n + 2
    rw [List.length_append, List.length_append, List.length_zipWith, List.length_tail, ih]
    simp
    omega
def tab : List (List Int) := [[1, 0, 0, 0, 0, 0, 0, 0, 0, 0, 0, 0, 0, 0, 0, 0, 0],
  [1, 1, 1, 1, 1, 1, 1, 1, 1, 1, 1, 1, 1, 1, 1, 1, 1],
  [1, 1, 2, 3, 6, 10, 20, 35, 70, 126, 252, 462, 924, 1716, 3432, 6435, 12870],
  [1, 1, 2, 6, 12, 30, 90, 210, 560, 1680, 4200, 11550, 34650, 90090, 252252, 756756, 2018016],
  [1, 1, 2, 6, 24, 60, 180, 630, 2520, 7560, 25200, 92400, 369600, 1201200, 4204200, 15765750, 63063000],
  [1, 1, 2, 6, 24, 120, 360, 1260, 5040, 22680, 113400, 415800, 1663200, 7207200, 33633600, 168168000, 672672000],
  [1, 1, 2, 6, 24, 120, 720, 2520, 10080, 45360, 226800, 1247400, 7484400, 32432400, 151351200, 756756000, 4036032000],
  [1, 1, 2, 6, 24, 120, 720, 5040, 20160, 90720, 453600, 2494800, 14968800, 97297200, 681080400, 3405402000, 18162144000],
  [1, 1, 2, 6, 24, 120, 720, 5040, 40320, 181440, 907200, 4989600, 29937600, 194594400, 1362160800, 10216206000, 81729648000],
  [1, 1, 2, 6, 24, 120, 720, 5040, 40320, 362880, 1814400, 9979200, 59875200, 389188800, 2724321600, 20432412000, 163459296000],
  [1, 1, 2, 6, 24, 120, 720, 5040, 40320, 362880, 3628800, 19958400, 119750400, 778377600, 5448643200, 40864824000, 326918592000],
  [1, 1, 2, 6, 24, 120, 720, 5040, 40320, 362880, 3628800, 39916800, 239500800, 1556755200, 10897286400, 81729648000, 653837184000],
  [1, 1, 2, 6, 24, 120, 720, 5040, 40320, 362880, 3628800, 39916800, 479001600, 3113510400, 21794572800, 163459296000, 1307674368000],
  [1, 1, 2, 6, 24, 120, 720, 5040, 40320, 362880, 3628800, 39916800, 479001600, 6227020800, 43589145600, 326918592000, 2615348736000],
  [1, 1, 2, 6, 24, 120, 720, 5040, 40320, 362880, 3628800, 39916800, 479001600, 6227020800, 87178291200, 653837184000, 5230697472000],
  [1, 1, 2, 6, 24, 120, 720, 5040, 40320, 362880, 3628800, 39916800, 479001600, 6227020800, 87178291200, 1307674368000, 10461394944000],
  [1, 1, 2, 6, 24, 120, 720, 5040, 40320, 362880, 3628800, 39916800, 479001600, 6227020800, 87178291200, 1307674368000, 20922789888000],
  [1, 1, 2, 6, 24, 120, 720, 5040, 40320, 362880, 3628800, 39916800, 479001600, 6227020800, 87178291200, 1307674368000, 20922789888000],
  [1, 1, 2, 6, 24, 120, 720, 5040, 40320, 362880, 3628800, 39916800, 479001600, 6227020800, 87178291200, 1307674368000, 20922789888000]]
def trow (k : Nat) : List Int := tab.getD k []
def mx : List Int → Int
  | [] => 0
  | a :: r => r.foldl (fun m x => if m < x then x else m) a
theorem mx_fold : ∀ (r : List Int) (a : Int), (r.foldl (fun m x => if m < x then x else m) a ∈ a :: r) ∧ ∀ y ∈ a :: r, y ≤ r.foldl (fun m x => if m < x then x else m) a
  | [], a => ⟨by simp, by simp⟩
  | b :: r, a => by
    obtain ⟨h1, h2⟩ := mx_fold r (if a < b then b else a)
    rw [List.foldl_cons]
    have h3 := h2 _ List.mem_cons_self
    refine ⟨?_, fun y hy => ?_⟩
    · rcases List.mem_cons.mp h1 with h | h
      · rw [h]
        split <;> simp
      · exact List.mem_cons_of_mem _ (List.mem_cons_of_mem _ h)
    · rcases List.mem_cons.mp hy with rfl | hy
      · refine Int.le_trans ?_ h3
        split <;> omega
      · rcases List.mem_cons.mp hy with rfl | hy
        · refine Int.le_trans ?_ h3
          split <;> omega
        · exact h2 y (List.mem_cons_of_mem _ hy)
theorem mx_of {ns : List Int} {m : Int} (h1 : m ∈ ns) (h2 : ∀ y ∈ ns, y ≤ m) : m = mx ns := by
  cases ns with
  | nil => cases h1
  | cons a r =>
    obtain ⟨g1, g2⟩ := mx_fold r a
    exact Int.le_antisymm (g2 m h1) (h2 _ g1)
def cells (l : List Int) (n : Nat) : List Int := (List.range (n + 1)).map fun s => (row n).getD s 0 * l.getD (n - s) 0
theorem tab_len : ∀ k : Fin 19, (trow k.val).length = 17 := by decide +kernel
theorem tab_step : ∀ k : Fin 18, ∀ n : Fin 17, (trow (k.val + 1)).getD n.val 0 = mx (cells (trow k.val) n.val) := by decide +kernel
theorem tab_small : ∀ k : Fin 19, ∀ n : Fin 17, 0 ≤ (trow k.val).getD n.val 0 ∧ (trow k.val).getD n.val 0 < 2 ^ 64 := by decide +kernel
theorem tab_gr : ∀ i : Fin 15, ∀ j : Fin 15, ∀ m : Fin 2, (trow (j.val + 2 + (m.val + 1)))[i.val + 2]? = some (gr ((i.val : Int) + 2) ((j.val : Int) + 2 + ((m.val : Int) + 1))) := by decide +kernel
/-- lists of lists of ints, row by row -/
def Tab (f : Nat → List Int) (H : Hp) (r : Addr) (k : Nat) : Prop := ∃ as : List Addr, as.length = k + 1 ∧ H r = some (.lst (as.map V.ref)) ∧ ∀ (n : Nat) (a : Addr), as[n]? = some a → H a = some (.lst ((f n).map V.int))
theorem Tab.ex {f : Nat → List Int} {H H' : Hp} {r : Addr} {k : Nat} (e : Ex H H') (h : Tab f H r k) : Tab f H' r k := by
  obtain ⟨as, h1, h2, h3⟩ := h
  exact ⟨as, h1, e _ _ h2, fun n a ha => e _ _ (h3 n a ha)⟩
theorem refs_get {as : List Addr} {n : Nat} {a : Addr} (h : as[n]? = some a) : (as.map V.ref)[n]? = some (V.ref a) := by
  rw [List.getElem?_map, h]; rfl
theorem not_refs {ns : List Int} {as : List Addr} (hns : ns ≠ []) : ns.map V.int ≠ as.map V.ref := by
  intro z
  cases ns with
  | nil => exact hns rfl
  | cons n ns => cases as with
    | nil => cases z
    | cons b bs => exact nomatch (List.cons.inj z).1
/-- a further row -/
theorem Tab.put {f : Nat → List Int} {H : Hp} {r p : Addr} {k : Nat} (ne : ∀ n, n ≤ k + 1 → f n ≠ []) {as : List Addr} (h1 : as.length = k + 1) (h2 : H r = some (.lst (as.map V.ref))) (h3 : ∀ (n : Nat) (a : Addr), as[n]? = some a → H a = some (.lst ((f n).map V.int)))
    (hp : H p = some (.lst ((f (k + 1)).map V.int))) : Tab f (upd H r (.lst (as.map V.ref ++ [V.ref p]))) r (k + 1) := by
  refine ⟨as ++ [p], by rw [List.length_append, h1]; rfl, by rw [upd_same, List.map_append]; rfl, fun n a ha => ?_⟩
  have nr : ∀ {ns : List Int} {a : Addr}, ns ≠ [] → H a = some (.lst (ns.map V.int)) → a ≠ r := by
    intro ns a hns g1 ee
    rw [ee, h2] at g1
    exact not_refs hns (HO.lst.inj (Option.some.inj g1)).symm
  by_cases hn : n < as.length
  · rw [List.getElem?_append_left hn] at ha
    have g := h3 n a ha
    rw [upd_ne (nr (ne n (by omega)) g)]
    exact g
  · have hn2 : n = k + 1 := by
      have := (List.getElem?_eq_some_iff.mp ha).1
      rw [List.length_append, List.length_singleton] at this
      omega
    subst hn2
    rw [List.getElem?_append_right (by omega), h1, Nat.sub_self] at ha
    cases (Option.some.inj ha)
    rw [upd_ne (nr (ne _ (Nat.le_refl _)) hp)]
    exact hp
theorem at_last {as : List Addr} {k : Nat} {a : Addr} (h1 : as.length = k + 1) (h : as[k]? = some a) : atI (as.map V.ref) (-1) = some (V.ref a) := by
  have e : ixN (as.map V.ref).length (-1) = some k := by
    unfold ixN
    rw [if_neg (by decide), if_pos (by rw [List.length_map]; omega), List.length_map, h1]
    congr 1
    omega
  unfold atI
  rw [e]
  exact refs_get h
section
variable {σ : L2.St} {H : Hp} {ta tb : TE} {xs ys : List V}
theorem el_catL (ha : EvL ta σ H xs) (hb : EvL tb σ H ys) (hz : xs.length + ys.length ≤ 100000) : EvL (tOp rCat ta tb) σ H (xs ++ ys) := fun H1 e Q q =>
  ha H1 e _ fun p H2 hp e2 h2 => hb H2 (e.trans e2) _ fun p' H3 hp' e3 h3 => ⟨p, p', xs, ys, rfl, rfl, e3 _ _ h2, h3, sz_of hz, fun l hl => q l _ (fresh_back (e2.trans e3) hl) ((e2.trans e3).trans (Ex.new hl)) upd_same⟩
theorem el_repL {n : Int} (ha : EvL ta σ H xs) (hb : ∀ H1, Ex H H1 → Ev tb σ H1 (.int n)) (h1 : -(2 ^ 63) ≤ n) (h2 : n < 2 ^ 63) (hz : xs.length * n.toNat ≤ 100000) : EvL (tOp rRep ta tb) σ H (List.replicate n.toNat xs).flatten := fun H1 e Q q =>
  ha H1 e _ fun p H2 hp e2 h3 => hb H2 (e.trans e2) H2 (Ex.refl _) _ fun H3 e3 => ⟨p, n, xs, rfl, rfl, e3 _ _ h3, h1, h2, sz_of hz, fun l hl => q l _ (fresh_back (e2.trans e3) hl) ((e2.trans e3).trans (Ex.new hl)) upd_same⟩
end
theorem row_ne (n : Nat) : row n ≠ [] := fun z => by have := row_len n; rw [z] at this; cases this
theorem trow_len {k : Nat} (h : k ≤ 18) : (trow k).length = 17 := tab_len ⟨k, by omega⟩
theorem trow_ne {k : Nat} (h : k ≤ 18) : trow k ≠ [] := fun z => by have := trow_len h; rw [z] at this; cases this
theorem ints_getD {ns : List Int} {i : Nat} (h : i < ns.length) : (ns.map V.int)[i]? = some (.int (ns.getD i 0)) := by
  rw [List.getElem?_map, List.getElem?_eq_getElem h, List.getD_eq_getElem?_getD, List.getElem?_eq_getElem h]
  rfl
section
variable {P : Program} {w : World} {K : PySem.W.Frag} {mg : Str → Option Value} {base : Heap}
def spMost : Sp := fun vs H Q _ => vs = [] ∧ ∀ r H', Ex H H' → Tab trow H' r 18 → Q (.ref r) H'

def inScope : Stmt → Scope
  | .For _ _ [.Expr (.Call _ [.ListComp _ _ sc _] _ _) _] _ _ => sc
  | _ => defScope s_law_most
def dumEnv : Env := { scope := defScope s_law_most, locals := 0, globals := 0, cells := [], qual := "", func := none, code := .none, frame := none, builtins := 0 }
def lcs_law_most : Scope := relabel (inScope ((defBody s_law_most).getD 3 (.Pass ⟨0, 0, 0, 0⟩))) dumEnv

theorem ok_law_most (T : TK K mg) : FnOk P w K mg base CX0 1 T.law_most.a T.law_most.fd [] spMost := by
  refine T.law_most.F.ok sc_law_most (fun vs H Q E h => ?_) (fun cdv A outer s H vs Q E hr h => ?_)
  · obtain ⟨rfl, _⟩ := h; rfl
  obtain ⟨rfl, q⟩ := h
  refine ⟨_, (pss_cons (ps_set (i := 0) sc_law_most.nd rfl (Or.inr rfl) (pe_lst (pa_cons (pe_lst (pa_cons pe_int pa_nil)) pa_nil)))
    (pss_cons (ps_for PassesOwn.never rfl (pi_range1 rfl T.z_range (pa_cons pe_int pa_nil)) (pg_name (i := 1) sc_law_most.nd rfl (Or.inl rfl)) (pss_cons (ps_set (i := 2) sc_law_most.nd rfl (Or.inr rfl) (pe_ix (kixl K) (pv 0) (pe_un un_neg pe_int) (fun _ _ => rfl)))
    (pss_one (ps_expr (pe_bm PySem.F.plainAttrs_list PySem.F.slot_list_append PySem.F.type_list_append mt_append (pv 0) (pa_cons (pe_op op_cat (pe_op op_cat (pe_lst (pa_cons pe_int pa_nil)) (pe_lc (own := [("k", 3)]) (g := gName 3) (by rfl) sc_law_most.nd (pi_range1 rfl T.z_range (pa_cons (pv 1) pa_nil)) (blkOk_by (own := [("k", 3)]) (N := ["rows", "n", "last", "k", "found", "size"]) (sc := defScope s_law_most) (by decide +kernel)) (fun _ _ _ _ _ => (pg_name (i := 3) sc_law_most.nd rfl (Or.inl rfl))) (fun _ _ _ _ _ => pts_nil) (fun _ _ _ _ _ => (pe_op op_add (pe_ix (kixl K) (pv 2) (pv 3) (fun _ _ => rfl)) (pe_ix (kixl K) (pv 2) (pe_op op_add (pv 3) pe_int) (fun _ _ => rfl)))))) (pe_lst (pa_cons pe_int pa_nil))) pa_nil))))))
    (pss_cons (ps_set (i := 4) sc_law_most.nd rfl (Or.inr rfl) (pe_lst (pa_cons (pe_op op_cat (pe_lst (pa_cons pe_int pa_nil)) (pe_op op_rep (pe_lst (pa_cons pe_int pa_nil)) pe_int)) pa_nil)))
    (pss_cons (ps_for PassesOwn.never rfl (pi_range1 rfl T.z_range (pa_cons pe_int pa_nil)) (pg_name (i := 3) sc_law_most.nd rfl (Or.inl rfl)) (pss_one (ps_expr (pe_bm PySem.F.plainAttrs_list PySem.F.slot_list_append PySem.F.type_list_append mt_append (pv 4) (pa_cons (pe_lc (own := [("n", 1)]) (g := gName 1) (by rfl) sc_law_most.nd (pi_range1 rfl T.z_range (pa_cons pe_int pa_nil)) (blkOk_by (own := [("n", 1)]) (N := ["rows", "n", "last", "k", "found", "size"]) (sc := defScope s_law_most) (by decide +kernel)) (fun _ _ _ _ _ => (pg_name (i := 1) sc_law_most.nd rfl (Or.inr rfl))) (fun _ _ _ _ _ => pts_nil) (fun _ _ _ _ _ => (pe_callB (kmax K rfl) (by rfl) T.z_max (by decide +kernel) (pa_cons (pe_lc (own := [("size", 5)]) (g := gName 5) (by rfl) sc_law_most.nd (pi_range1 rfl T.z_range (pa_cons (pe_op op_add (pv 1) pe_int) pa_nil)) (blkOk_by (own := [("size", 5)]) (N := ["rows", "n", "last", "k", "found", "size"]) (sc := lcs_law_most) (by decide +kernel)) (fun _ _ _ _ _ => (pg_name (i := 5) sc_law_most.nd rfl (Or.inl rfl))) (fun _ _ _ _ _ => pts_nil) (fun _ _ _ _ _ => (pe_op op_mul (pe_ix (kixl K) (pe_ix (kixl K) (pv 0) (pv 1) (fun _ _ => rfl)) (pv 5) (fun _ _ => rfl)) (pe_ix (kixl K) (pe_ix (kixl K) (pv 4) (pe_un un_neg pe_int) (fun _ _ => rfl)) (pe_op op_sub (pv 1) (pv 5)) (fun _ _ => rfl))))) pa_nil)))) pa_nil)))))
    (pss_one (ps_ret (pv 4))))))), ?_⟩
  have size : ∀ m : Nat, m ≤ 1000 → m ≤ sizeLine := fun m h => Nat.le_of_lt (small1000 h)
  refine ⟨(by show 1 ≤ sizeLine; decide), fun a0 ha0 => ⟨(by show 1 ≤ sizeLine; decide), fun r hr0 => ?_⟩⟩
  have n0 : a0 ≠ r := by
    intro e
    rw [← e, upd_same] at hr0
    cases hr0
  have rn : H r = none := by rw [upd_ne (Ne.symm n0)] at hr0; exact hr0
  refine ⟨16, rfl, by decide, by decide, for_range (lo := 0) (n := 16)
    (fun k σ H' => H r = none ∧ Ex H H' ∧ Tab row H' r k ∧ ∃ u v x y z, σ = [some (.ref r), u, v, x, y, z]) ⟨rn, ?_, ?_, none, none, none, none, none, rfl⟩ ?_ ?_⟩
  · exact (Ex.new ha0).trans (Ex.new hr0)
  · refine ⟨[a0], rfl, upd_same, fun n a ha => ?_⟩
    have hn : n = 0 := by
      have := (List.getElem?_eq_some_iff.mp ha).1
      simpa using this
    subst hn
    cases (Option.some.inj ha)
    rw [upd_ne n0, upd_same]
    rfl
  · rintro k σ H' hk ⟨rn, e, ⟨as, h1, h2, h3⟩, u, v, x, y, z, rfl⟩
    have hk1 : as[k]? = some as[k] := List.getElem?_eq_getElem (by omega)
    have hL := SqL.of (K := K) h2
    have ha := h3 k _ hk1
    have hlast : atI (as.map V.ref) (-1) = some (V.ref as[k]) := by
      exact at_last h1 hk1
    refine ⟨_, rfl, _, rfl, _, _, _, _, rfl, rfl, hL, hlast, ?_⟩
    have hrl := row_len k
    refine s_appL (K := K) (ys := (row (k + 1)).map V.int) h2 (ev_var rfl) ?_ (by rw [List.length_map]; omega) (fun p H1 hp e1 hpl => ?_)
    · have comp : EvL (tLc (iRng1 (tCons (tVar 1) tNil)) (gName 3) tYes (tOp (rI0 fun i j => .int (i + j)) (tOp (rIxL K) (tVar 2) (tVar 3)) (tOp (rIxL K) (tVar 2) (tOp (rI0 fun i j => .int (i + j)) (tVar 3) (tC (.int 1))))) [3])
          [some (.ref r), some (.int (0 + (k : Int))), some (.ref as[k]), x, y, z] H' (given (0 + (k : Int)).toNat (fun _ => true) (fun i => .int ((row k).getD i 0 + (row k).getD (i + 1) 0))) := by
        refine el_lcR1 (fun _ => true) (fun i => .int ((row k).getD i 0 + (row k).getD (i + 1) 0)) (ea_cons (ev_var rfl) ea_nil) ⟨by omega, by omega⟩ (fun _ => rfl) (fun i H1 _ _ H2 _ Q k => k H2 (Ex.refl _)) (fun i H1 e1 hi _ => ?_)
        have hs := ex_l e1 (SqL.of (K := K) ha)
        refine ev_op (ev_op (ev_var rfl) (ev_var rfl) (rv_ixL hs (atI_nat (ints_getD (by omega))))) (ev_op (ev_var rfl) (ev_op (ev_var rfl) ev_c rv_I0) (rv_ixL hs (at_of (j := i + 1) (by omega) (ints_getD (by omega))))) rv_I0
      have gl := given_len (0 + (k : Int)).toNat (fun _ => true) (fun i => V.int ((row k).getD i 0 + (row k).getD (i + 1) 0))
      have one : ∀ σ H, EvL (tLst (tCons (tC (.int 1)) tNil)) σ H [V.int 1] := fun σ H => el_lst (ea_cons ev_c ea_nil) (by decide)
      have key := el_catL (el_catL (one _ _) comp (by rw [List.length_singleton]; omega)) (one _ _) (by simp only [List.length_append, List.length_singleton]; omega)
      have new : ([.int 1] ++ given (0 + (k : Int)).toNat (fun _ => true) (fun i => .int ((row k).getD i 0 + (row k).getD (i + 1) 0)) ++ [.int 1] : List V) = (row (k + 1)).map V.int := by
        show _ = (rowUp (row k)).map V.int
        unfold rowUp
        rw [given_all, List.map_append, List.map_append]
        congr 2
        apply List.ext_getElem?
        intro i
        rw [List.getElem?_map, List.getElem?_map, List.getElem?_zipWith]
        by_cases hi : i < k
        · rw [List.getElem?_range (by omega), List.getElem?_tail, List.getElem?_eq_getElem (show i < (row k).length by omega), List.getElem?_eq_getElem (show i + 1 < (row k).length by omega)]
          simp only [Option.map_some, List.getD_eq_getElem?_getD, List.getElem?_eq_getElem (show i < (row k).length by omega), List.getElem?_eq_getElem (show i + 1 < (row k).length by omega), Option.getD_some]
        · rw [List.getElem?_eq_none (by rw [List.length_range]; omega), List.getElem?_tail, List.getElem?_eq_none (show (row k).length ≤ i + 1 by omega)]
          cases (row k)[i]? <;> rfl
      rw [← new]
      exact key
    · exact ⟨rn, (e.trans e1).mut rn, Tab.put (fun n _ => row_ne n) h1 (e1 _ _ h2) (fun n a ha => e1 _ _ (h3 n a ha)) hpl, _, _, _, _, _, rfl⟩
  · rintro σ Hx ⟨rn, e, tr, u, v, x, y, z, rfl⟩
    have f0 := el_catL (el_lst (σ := [some (V.ref r), u, v, x, y, z]) (H := Hx) (ea_cons (x := .int 1) ev_c ea_nil) (by decide)) (el_repL (n := 16) (el_lst (σ := [some (V.ref r), u, v, x, y, z]) (H := Hx) (ea_cons (x := .int 0) ev_c ea_nil) (by decide)) (fun H1 e => ev_c) (by decide) (by decide) (by decide)) (by decide)
    refine f0 Hx (Ex.refl _) _ fun a0 H1 ha e1 h1 => ⟨size _ (by show 1 ≤ 1000; decide), fun G hG => ?_⟩
    have hGx : Hx G = none := fresh_back e1 hG
    have na : a0 ≠ G := by rintro rfl; rw [h1] at hG; cases hG
    refine ⟨18, rfl, by decide, by decide, for_range (lo := 0) (n := 18)
      (fun j σ H' => Ex Hx H' ∧ Tab trow H' G j ∧ ∃ u v x z, σ = [some (.ref r), u, v, x, some (.ref G), z]) ⟨e1.trans (Ex.new hG), ?_, _, _, _, _, rfl⟩ ?_ ?_⟩
    · refine ⟨[a0], rfl, upd_same, fun n a hn => ?_⟩
      have hn0 : n = 0 := by
        have := (List.getElem?_eq_some_iff.mp hn).1
        simpa using this
      subst hn0
      cases (Option.some.inj hn)
      rw [upd_ne na, h1]
      rfl
    · rintro j σ H' hj ⟨e2, ⟨bs, g1, g2, g3⟩, u, v, x, z, rfl⟩
      obtain ⟨as, r1, r2, r3⟩ := tr.ex e2
      have hb : bs[j]? = some bs[j] := List.getElem?_eq_getElem (by omega)
      have hbl := g3 j _ hb
      have tl := trow_len (k := j) (by omega)
      have tl1 := trow_len (k := j + 1) (by omega)
      refine s_appL (K := K) (ys := (trow (j + 1)).map V.int) g2 (ev_var rfl) ?_ (by rw [List.length_map]; omega) (fun p H3 hp e3 hpl => ?_)
      · have gv : (trow (j + 1)).map V.int = given (17 : Int).toNat (fun _ => true) (fun n => .int ((trow (j + 1)).getD n 0)) := by
          rw [given_all]
          apply List.ext_getElem?
          intro i
          by_cases hi : i < 17
          · rw [ints_getD (by omega), List.getElem?_map, List.getElem?_range (by exact hi)]; rfl
          · rw [List.getElem?_eq_none (by rw [List.length_map]; omega), List.getElem?_eq_none (by rw [List.length_map, List.length_range]; exact Nat.not_lt.mp hi)]
        rw [gv]
        refine el_lcR1 (fun _ => true) (fun n => .int ((trow (j + 1)).getD n 0)) (ea_cons ev_c ea_nil) ⟨by decide, by decide⟩ (fun _ => rfl) (fun i H1 _ _ H2 _ Q k => k H2 (Ex.refl _)) (fun n H4 e4 hn _ => ?_)
        have hn' : n < 17 := by omega
        intro H5 e5 Q5 k5
        have e45 := e4.trans e5
        have hrn : as[n]? = some as[n] := List.getElem?_eq_getElem (by omega)
        have hrl := r3 n _ hrn
        have rl := row_len n
        have inner : EvL (tLc (iRng1 (tCons (tOp (rI0 fun i j => .int (i + j)) (tVar 1) (tC (.int 1))) tNil)) (gName 5) tYes
            (tOp (rI CMul fun i j => .int (i * j)) (tOp (rIxL K) (tOp (rIxL K) (tVar 0) (tVar 1)) (tVar 5)) (tOp (rIxL K) (tOp (rIxL K) (tVar 4) (tUn (rU fun i => .int (-i)) (tC (.int 1)))) (tOp (rI0 fun i j => .int (i - j)) (tVar 1) (tVar 5)))) [5])
            ((wipe [some (V.ref r), u, v, some (V.int (0 + (j : Int))), some (V.ref G), z] [1]).set 1 (some (.int (n : Int)))) H5 (given ((n : Int) + 1).toNat (fun _ => true) (fun s => .int ((row n).getD s 0 * (trow j).getD (n - s) 0))) := by
          refine el_lcR1 (fun _ => true) (fun s => .int ((row n).getD s 0 * (trow j).getD (n - s) 0)) (ea_cons (ev_op (ev_var rfl) ev_c rv_I0) ea_nil) ⟨by omega, by omega⟩ (fun _ => rfl) (fun i H1 _ _ H2 _ Q k => k H2 (Ex.refl _)) (fun s H6 e6 hs _ => ?_)
          have e46 := e45.trans e6
          have sm := tab_small ⟨j, by omega⟩ ⟨n - s, by omega⟩
          refine ev_op (ev_op (ev_op (ev_var rfl) (ev_var rfl) (rv_ixL (SqL.of (e46 _ _ r2)) (atI_nat (refs_get hrn)))) (ev_var rfl) (rv_ixL (SqL.of (e46 _ _ hrl)) (atI_nat (ints_getD (by omega)))))
            (ev_op (ev_op (ev_var rfl) (ev_un ev_c ru_neg) (rv_ixL (SqL.of (e46 _ _ g2)) (at_last g1 hb))) (ev_op (ev_var rfl) (ev_var rfl) rv_I0) (rv_ixL (SqL.of (e46 _ _ hbl)) (at_of (j := n - s) (by omega) (ints_getD (by omega))))) (rv_I (.inr ⟨?_, sm.2⟩))
          have := sm.1
          exact Int.lt_of_lt_of_le (by decide) this
        refine inner H5 (Ex.refl _) (fun v H6 => rMax K [v] H6 Q5) fun p H6 hp e6 h6 => ?_
        refine ⟨p, cells (trow j) n, rfl, SqL.of ?_, by unfold cells; rw [List.length_map, List.length_range]; omega, fun m hm hall => ?_⟩
        · rw [h6, given_all]
          unfold cells
          rw [List.map_map]
          congr 3
        · rw [mx_of hm hall, ← tab_step ⟨j, by omega⟩ ⟨n, hn'⟩]
          exact k5 H6 e6
      · exact ⟨(e2.trans e3).mut hGx, Tab.put (fun n hn => trow_ne (by omega)) g1 (e3 _ _ g2) (fun n a ha => e3 _ _ (g3 n a ha)) hpl, _, _, _, _, rfl⟩
    · rintro σ H' ⟨e2, tb, u, v, x, z, rfl⟩
      exact ⟨_, rfl, q _ _ (e.trans e2) tb⟩
end
end L2.U


set_option Elab.async false
set_option linter.all false
set_option maxRecDepth 100000
set_option maxHeartbeats 4000000
namespace L2.U
open PySem PySem.Spec PyProof.Rows Evl

section
variable {P : Program} {w : World} {K : PySem.W.Frag} {mg : Str → Option Value} {base : Heap}
/-- what is asked: of any kind -/
inductive Od (H : Hp) : V → Prop
  | non : Od H .non
  | bl (b : Bool) : Od H (.bl b)
  | int (i : Int) : Od H (.int i)
  | str (z : Str) (h : z.length ≤ 1000) : Od H (.str z)
  | lst {a : Addr} {ns : List Int} (h : H a = some (.lst (ns.map V.int))) (hz : ns.length ≤ 2) : Od H (.ref a)
  | tup {a : Addr} {ns : List Int} (h : H a = some (.tup (ns.map V.int))) (hz : ns.length ≤ 2) : Od H (.ref a)
  | dct {a : Addr} {kvs : List (Key × V)} (h : H a = some (.dK kvs)) : Od H (.ref a)
theorem Od.dat {H : Hp} {x : V} (h : Od H x) : Dat K H x := by
  cases h with
  | non => exact ⟨"NoneType", by decide, .base .non, rfl⟩
  | bl b => exact ⟨"bool", by decide, .base (.bl b), rfl⟩
  | int i => exact .int
  | str z h => exact ⟨"str", by decide, .base (.str z), rfl⟩
  | lst h1 => exact ⟨"list", by decide, tyL (SqL.of h1), rfl⟩
  | tup h1 => exact ⟨"tuple", by decide, tyT (SqT.of h1), rfl⟩
  | dct h => exact ⟨"dict", by decide, .base (.dK h), rfl⟩
theorem Od.ex {H H' : Hp} {x : V} (e : Ex H H') (h : Od H x) : Od H' x := by
  cases h with
  | non => exact .non
  | bl b => exact .bl b
  | int i => exact .int i
  | str z h => exact .str z h
  | lst h hz => exact .lst (e _ _ h) hz
  | tup h hz => exact .tup (e _ _ h) hz
  | dct h => exact .dct (e _ _ h)
theorem Od.but {H H' : Hp} {x : V} {b : Addr} {n : Nat} (k : But b H H') (hb : BoxAt H b n) (h : Od H x) : Od H' x := by
  obtain ⟨d, m, c, f, hb, _⟩ := hb
  cases h with
  | non => exact .non
  | bl b => exact .bl b
  | int i => exact .int i
  | str z h => exact .str z h
  | @lst a ns h hz =>
    refine .lst (k _ _ ?_ h) hz
    rintro rfl
    rw [h] at hb
    have := congrArg List.length (HO.lst.inj (Option.some.inj hb))
    rw [List.length_map] at this
    have h4 : ns.length = 4 := this
    omega
  | tup h hz =>
    refine .tup (k _ _ ?_ h) hz
    rintro rfl
    rw [h] at hb
    cases hb
  | dct h =>
    refine .dct (k _ _ ?_ h)
    rintro rfl
    rw [h] at hb
    cases hb
/-- a copy of a list, or the very value -/
def CpV (H H' : Hp) (x x' : V) : Prop := Od H' x' ∧ goodV x' = goodV x ∧ (∀ l xs, x' = .ref l → H' l = some (.lst xs) → H l = none) ∧ ∀ i, x = .int i → x' = .int i
theorem CpV.same {H H' : Hp} {x : V} (e : Ex H H') (h : Od H x) (no : ∀ l xs, x = .ref l → H l ≠ some (.lst xs)) : CpV H H' x x := by
  refine ⟨h.ex e, rfl, fun l xs hl hx => ?_, fun i h => h⟩
  cases hH : H l with
  | none => rfl
  | some o =>
    have := e _ _ hH
    rw [hx] at this
    rw [← Option.some.inj this] at hH
    exact absurd hH (no l xs hl)
theorem CpV.ex {H H1 H2 : Hp} {x x' : V} (h : CpV H H1 x x') (e0 : Ex H H1) (e : Ex H1 H2) : CpV H H2 x x' := by
  obtain ⟨h1, h2, h3, h4⟩ := h
  refine ⟨h1.ex e, h2, fun l xs hl hx => ?_, h4⟩
  cases hH : H1 l with
  | none =>
    cases hH0 : H l with
    | none => rfl
    | some o => rw [e0 _ _ hH0] at hH; cases hH
  | some o =>
    have := e _ _ hH
    rw [hx] at this
    rw [← Option.some.inj this] at hH
    exact h3 l xs hl hH
theorem Od.upd {H : Hp} {v : V} {D : Addr} {o : HO} (h : Od H v) (ne : v ≠ .ref D) : Od (upd H D o) v := by
  cases h with
  | non => exact .non
  | bl b => exact .bl b
  | int i => exact .int i
  | str z h => exact .str z h
  | lst h hz => exact .lst (by rw [upd_ne (fun e => ne (by rw [e]))]; exact h) hz
  | tup h hz => exact .tup (by rw [upd_ne (fun e => ne (by rw [e]))]; exact h) hz
  | dct h => exact .dct (by rw [upd_ne (fun e => ne (by rw [e]))]; exact h)
theorem CpV.upd {H H' : Hp} {x v : V} {D : Addr} {o : HO} (h : CpV H H' x v) (ne : v ≠ .ref D) : CpV H (upd H' D o) x v := by
  obtain ⟨h1, h2, h3, h4⟩ := h
  refine ⟨h1.upd ne, h2, fun l xs hl hx => ?_, h4⟩
  rw [upd_ne (fun e => ne (by rw [hl, e]))] at hx
  exact h3 l xs hl hx
theorem Od.ne {H : Hp} {v : V} {D : Addr} (h : Od H v) (hD : H D = none) : v ≠ .ref D := by
  rintro rfl
  cases h with
  | lst h hz => rw [h] at hD; cases hD
  | tup h hz => rw [h] at hD; cases hD
  | dct h => rw [h] at hD; cases hD
theorem cp_el {σ : L2.St} {H : Hp} {x : V} {j : Nat} (hj : σ[j]? = some (some x)) (h : Od H x) {Q : VK} (q : ∀ x' H', Ex H H' → CpV H H' x x' → (x' = x ∨ ∃ l, x' = .ref l ∧ H l = none) → Q x' H') :
    tIf (tB (tCB (rIsi K) (tCons (tVar j) (tCons (tC (V.ty "list")) tNil)))) (tCB (rListOf K) (tCons (tVar j) tNil)) (tVar j) σ H Q := by
  have no : ∀ {t : String}, TyX K H x (.type t) → kitB t "list" = some false → (∀ l xs, x = .ref l → H l ≠ some (.lst xs)) → tIf (tB (tCB (rIsi K) (tCons (tVar j) (tCons (tC (V.ty "list")) tNil)))) (tCB (rListOf K) (tCons (tVar j) tNil)) (tVar j) σ H Q :=
    fun ty k nl => ⟨x, hj, x, .ty "list", _, _, false, rfl, .ty "list", ty, kit_ty k, false, rfl, iteF ⟨x, hj, q x H (Ex.refl H) (.same (Ex.refl H) h nl) (.inl rfl)⟩⟩
  cases h with
  | non => exact no (.base .non) (by decide +kernel) (fun _ _ z => by cases z)
  | bl b => exact no (.base (.bl b)) (by decide +kernel) (fun _ _ z => by cases z)
  | int i => exact no (.base (.int i)) (by decide +kernel) (fun _ _ z => by cases z)
  | str z h => exact no (.base (.str z)) (by decide +kernel) (fun _ _ z => by cases z)
  | tup h hz => exact no (tyT (SqT.of h)) (by decide +kernel) (fun l xs e z => by cases e; rw [h] at z; cases z)
  | dct h => exact no (.base (.dK h)) (by decide +kernel) (fun l xs e z => by cases e; rw [h] at z; cases z)
  | @lst a ns h hz =>
    refine ⟨_, hj, _, .ty "list", _, _, true, rfl, .ty "list", tyL (SqL.of h), kit_ty (by decide +kernel), true, rfl, iteT ⟨_, hj, a, _, rfl, .inl (SqL.of h), fun l hl => q _ _ (Ex.new hl) ⟨.lst upd_same hz, rfl, fun l' xs e hx => ?_, fun i z => by cases z⟩ (.inr ⟨l, rfl, hl⟩)⟩⟩
    cases e
    exact hl
theorem od_sm {H : Hp} {v : V} (h : Od H v) (nl : ∀ a xs, v = .ref a → H a ≠ some (.lst xs)) (nd : ∀ a kvs, v = .ref a → H a ≠ some (.dK kvs)) : Sm K H 8 v v := by
  cases h with
  | non => exact .non
  | bl b => exact .bl b
  | int i => exact .int i
  | str z h => exact .str z h
  | lst h _ => exact absurd h (nl _ _ rfl)
  | dct h => exact absurd h (nd _ _ rfl)
  | tup h hz => exact .tup (SqT.of h) (SqT.of h) rfl (by rw [List.length_map]; omega) Sm.ints
theorem tab_at {i j mo : Int} (i0 : 2 ≤ i ∧ i ≤ 16) (j0 : 2 ≤ j ∧ j ≤ 16) (m : mo = 1 ∨ mo = 2) : ∃ k : Nat, j + mo = (k : Int) ∧ k ≤ 18 ∧ atI ((trow k).map V.int) i = some (.int (gr i (j + mo))) := by
  obtain ⟨a, rfl⟩ : ∃ a : Nat, i = (a : Int) + 2 := ⟨(i - 2).toNat, by omega⟩
  obtain ⟨b, rfl⟩ : ∃ b : Nat, j = (b : Int) + 2 := ⟨(j - 2).toNat, by omega⟩
  obtain ⟨c, rfl⟩ : ∃ c : Nat, mo = (c : Int) + 1 := ⟨(mo - 1).toNat, by omega⟩
  refine ⟨b + 2 + (c + 1), by omega, by omega, ?_⟩
  have g := tab_gr ⟨a, by omega⟩ ⟨b, by omega⟩ ⟨c, by omega⟩
  refine at_of (j := a + 2) (by omega) ?_
  rw [List.getElem?_map, g]
  rfl
def spRight : Sp := fun vs H Q _ => ∃ (r : Addr) (kn : Bool) (nm : Int) (x y : V), vs = [.ref r, .bl kn, .int nm, x, y] ∧ Tab trow H r 18 ∧ Od H x ∧ Od H y ∧ ∀ H', Ex H H' → Q (.bl true) H'
theorem ok_law_right (T : TK K mg) : FnOk P w K mg base CX0 10 T.law_right.a T.law_right.fd ["most", "known", "named", "own", "other"] spRight := by
  refine T.law_right.F.ok sc_law_right (fun vs H Q E h => ?_) (fun cdv A outer s H vs Q E hr h => ?_)
  · obtain ⟨r, kn, nm, x, y, rfl, _⟩ := h; rfl
  obtain ⟨r, kn, nm, x, y, rfl, tb, ox, oy, q⟩ := h
  refine ⟨_, (pss_cons (ps_par3 (i := 5) (j := 6) (l := 7) (by rfl) sc_law_right.nd rfl rfl rfl (by decide) (by decide) (by decide) rfl rfl rfl (pa_cons (pe_ifExp (pt_val (pv 1)) pe_int pe_int) (pa_cons pe_non (pa_cons (pe_lst (pa_cons (pv 3) (pa_cons (pv 4) pa_nil))) pa_nil))) (by rfl))
    (pss_cons (ps_set (i := 8) sc_law_right.nd rfl (Or.inl rfl) (pe_ifExp (pt_not (pt_val (pe_call (ok_law_is_good T) (hr.mono (by decide)) rfl T.law_is_good.m T.law_is_good.F.kp T.law_is_good.b .nil pass0 (pa_cons (pv 3) pa_nil)))) pe_int (pe_ifExp (pt_not (pt_val (pe_call (ok_law_is_good T) (hr.mono (by decide)) rfl T.law_is_good.m T.law_is_good.F.kp T.law_is_good.b .nil pass0 (pa_cons (pv 4) pa_nil)))) pe_int pe_int)))
    (pss_cons (ps_if (pt_cmpR op_eq (pv 8) pe_int (nomark _)) (pss_one (ps_set (i := 6) sc_law_right.nd rfl (Or.inl rfl) (pe_tup (pa_cons (pe_ix (kixl K) (pe_ix (kixl K) (pv 0) (pe_op op_add (pv 4) (pv 5)) (fun _ _ => rfl)) (pv 3) (fun _ _ => rfl)) (pa_cons (pe_ix (kixl K) (pe_ix (kixl K) (pv 0) (pe_op op_add (pv 3) (pv 5)) (fun _ _ => rfl)) (pv 4) (fun _ _ => rfl)) pa_nil))))) pss_nil)
    (pss_cons (ps_setLc (i := 7) (own := [("one", 10)]) (g := gName 10) (by rfl) sc_law_right.nd rfl rfl (sw_true rfl rfl rfl (by decide +kernel)) (kpil K (pv 7)) (blkOk_by (own := [("one", 10)]) (N := ["most", "known", "named", "own", "other", "more", "due", "passed", "at", "told", "one"]) (sc := defScope s_law_right) (by decide +kernel)) (fun _ _ _ _ _ => (pg_name (i := 10) sc_law_right.nd rfl (Or.inl rfl))) (fun _ _ _ _ _ => pts_nil) (fun _ _ _ _ _ => (pe_ifExp (pt_val (pe_callB (kisi K) (by rfl) T.z_isinstance (by decide +kernel) (pa_cons (pv 10) (pa_cons (pe_bltn (v := .ty "list") rfl T.z_list (by decide +kernel) rfl) pa_nil)))) (pe_callTy (klist K) (by rfl) T.z_list (by decide +kernel) (pa_cons (pv 10) pa_nil)) (pv 10))))
    (pss_cons (ps_set (i := 9) sc_law_right.nd rfl (Or.inl rfl) (pe_call (ok_law_told T) (hr.mono (by decide)) rfl T.law_told.m T.law_told.F.kp T.law_told.b .nil pass0 (pa_cons (pv 1) (pa_cons (pv 2) (pa_cons (pe_ix (kixl K) (pv 7) pe_int (fun _ _ => rfl)) (pa_cons (pe_ix (kixl K) (pv 7) pe_int (fun _ _ => rfl)) pa_nil))))))
    (pss_cons (ps_if (pt_cmpR op_eq (pv 8) pe_int (nomark _)) (pss_one (ps_ret (pe_and (pe_cmpR op_eq (pe_ix (kixt K) (pv 9) pe_int (fun _ _ => rfl)) pe_str (nomark _)) (pe_one (pe_call (ok_law_same T.toTA1) (hr.mono (by decide)) rfl T.law_same.m T.law_same.F.kp T.law_same.b .nil pass0 (pa_cons (pe_ix (kixt K) (pv 9) pe_int (fun _ _ => rfl)) (pa_cons (pv 6) pa_nil))))))) pss_nil)
    (pss_cons (ps_if (pt_cmpR op_ne (pe_ix (kixt K) (pv 9) pe_int (fun _ _ => rfl)) (pe_ix (kixl K) (pe_lst (pa_cons pe_str (pa_cons pe_str pa_nil))) (pv 8) (fun _ _ => rfl)) (nomark _)) (pss_one (ps_ret pe_bl)) pss_nil)
    (pss_cons (ps_if (pt_val (pe_callB (kisi K) (by rfl) T.z_isinstance (by decide +kernel) (pa_cons (pe_ix (kixl K) (pv 7) (pv 8) (fun _ _ => rfl)) (pa_cons (pe_bltn (v := .ty "list") rfl T.z_list (by decide +kernel) rfl) pa_nil)))) (pss_cons (ps_expr (pe_bm PySem.F.plainAttrs_list PySem.F.slot_list_append PySem.F.type_list_append mt_append (pe_ix (kixl K) (pv 7) (pv 8) (fun _ _ => rfl)) (pa_cons pe_int pa_nil)))
    (pss_one (ps_ret (pe_and (pe_callB (kisi K) (by rfl) T.z_isinstance (by decide +kernel) (pa_cons (pe_ix (kixt K) (pv 9) pe_int (fun _ _ => rfl)) (pa_cons (pe_bltn (v := .ty "list") rfl T.z_list (by decide +kernel) rfl) pa_nil))) (pe_one (pe_cmpR op_eq (pe_callB (klen K) (by rfl) T.z_len (by decide +kernel) (pa_cons (pe_ix (kixt K) (pv 9) pe_int (fun _ _ => rfl)) pa_nil)) (pe_callB (klen K) (by rfl) T.z_len (by decide +kernel) (pa_cons (pe_ix (kixl K) (pv 7) (pv 8) (fun _ _ => rfl)) pa_nil)) (nomark _))))))) pss_nil)
    (pss_cons (ps_if (pt_val (pe_callB (kisi K) (by rfl) T.z_isinstance (by decide +kernel) (pa_cons (pe_ix (kixl K) (pv 7) (pv 8) (fun _ _ => rfl)) (pa_cons (pe_bltn (v := .ty "dict") rfl T.z_dict (by decide +kernel) rfl) pa_nil)))) (pss_one (ps_ret (pe_and (pe_callB (kisi K) (by rfl) T.z_isinstance (by decide +kernel) (pa_cons (pe_ix (kixt K) (pv 9) pe_int (fun _ _ => rfl)) (pa_cons (pe_bltn (v := .ty "dict") rfl T.z_dict (by decide +kernel) rfl) pa_nil))) (pe_one (pe_cmpR op_eq (pe_callB call_lenD (by rfl) T.z_len (by decide +kernel) (pa_cons (pe_ix (kixt K) (pv 9) pe_int (fun _ _ => rfl)) pa_nil)) (pe_callB call_lenD (by rfl) T.z_len (by decide +kernel) (pa_cons (pe_ix (kixl K) (pv 7) (pv 8) (fun _ _ => rfl)) pa_nil)) (nomark _)))))) pss_nil)
    (pss_one (ps_ret (pe_call (ok_law_same T.toTA1) (hr.mono (by decide)) rfl T.law_same.m T.law_same.F.kp T.law_same.b .nil pass0 (pa_cons (pe_ix (kixt K) (pv 9) pe_int (fun _ _ => rfl)) (pa_cons (pe_ix (kixl K) (pv 7) (pv 8) (fun _ _ => rfl)) pa_nil)))))))))))))), ?_⟩
  have sz : ∀ m : Nat, m ≤ 1000 → m ≤ sizeLine := fun m h => Nat.le_of_lt (small1000 h)
  obtain ⟨mo, hmo⟩ : ∃ mo : Int, mo = if kn then 1 else 2 := ⟨_, rfl⟩
  have hd := ox.dat (K := K)
  have hd2 := oy.dat (K := K)
  -- the head: more, due, passed
  have head : ∀ {T1 : TS} {D1 : Ends}, (∀ L H', Ex H H' → H L = none → H' L = some (.lst [x, y]) → T1 D1 [some (.ref r), some (.bl kn), some (.int nm), some x, some y, some (.int mo), some .non, some (.ref L), none, none, none] H') →
      tSeq (tPar3 5 6 7 (tCons (tIf (tB (tVar 1)) (tC (V.int 1)) (tC (V.int 2))) (tCons (tC V.non) (tCons (tLst (tCons (tVar 3) (tCons (tVar 4) tNil))) tNil)))) T1 D1
        [some (.ref r), some (.bl kn), some (.int nm), some x, some y, none, none, none, none, none, none] H := by
    intro T1 D1 k
    subst hmo
    cases kn with
    | true => exact ⟨_, rfl, _, rfl, iteT ⟨_, rfl, _, rfl, two_le, fun L hL => ⟨_, _, _, rfl, k L _ (Ex.new hL) hL upd_same⟩⟩⟩
    | false => exact ⟨_, rfl, _, rfl, iteF ⟨_, rfl, _, rfl, two_le, fun L hL => ⟨_, _, _, rfl, k L _ (Ex.new hL) hL upd_same⟩⟩⟩
  refine head fun L H1 e1 L0 hL => ?_
  have copy : ∀ {σ : L2.St} {H2 : Hp} {T1 : TS} {D1 : Ends} (hσ : σ[7]? = some (some (.ref L))) (hw : ∀ x, wipe ((wipe σ [10]).set 10 (some x)) [10] = wipe σ [10]) (h10 : 10 < σ.length), Ex H H2 → H2 L = some (.lst [x, y]) →
      (∀ D x' y' H', Ex H2 H' → H2 D = none → H' D = some (.lst [x', y']) → CpV H2 H' x x' → CpV H2 H' y y' → T1 D1 (σ.set 7 (some (.ref D))) H') →
      tSeq (tAsg (tLc (iList K (tVar 7)) (gName 10) tYes (tIf (tB (tCB (rIsi K) (tCons (tVar 10) (tCons (tC (V.ty "list")) tNil)))) (tCB (rListOf K) (tCons (tVar 10) tNil)) (tVar 10)) [10]) (gName 7)) T1 D1 σ H2 := by
    intro σ H2 T1 D1 hσ hw h10 e2 hL2 k
    have l10 : ∀ z : V, ((wipe σ [10]).set 10 (some z))[10]? = some (some z) := fun z => by
      rw [List.getElem?_set_self]
      rw [wipe_length]; exact h10
    refine ⟨_, hσ, L, rfl, ⟨_, SqL.of hL2⟩, fun D hD => lc_list (xs := [x, y]) (fun i H' => Ex H2 H' ∧ (i = 0 → H' D = some (.lst [])) ∧ (i = 1 → ∃ x', H' D = some (.lst [x']) ∧ CpV H2 H' x x' ∧ x' ≠ .ref D) ∧ (i = 2 → ∃ x' y', H' D = some (.lst [x', y']) ∧ CpV H2 H' x x' ∧ CpV H2 H' y y'))
      ⟨Ex.new hD, (fun _ => upd_same), (fun z => nomatch z), (fun z => nomatch z)⟩ (fun i H' _ p => SqL.of (p.1 _ _ hL2)) (fun i z H' hz p => ⟨hw z, ?_⟩) (fun H' p => ?_)⟩
    · obtain ⟨p1, p2, p3, p4⟩ := p
      have fresh : ∀ {H' H3 : Hp} {w w' : V}, Ex H2 H' → Od H2 w → CpV H' H3 w w' → (∃ o, H' D = some o) → (w' = w ∨ ∃ l, w' = .ref l ∧ H' l = none) → CpV H2 H3 w w' ∧ w' ≠ .ref D := by
        intro H' H3 w w' e3 hw ⟨c1, c2, c3, c4⟩ ⟨o, hDo⟩ f
        refine ⟨⟨c1, c2, fun l xs hl hx => fresh_back e3 (c3 l xs hl hx), c4⟩, ?_⟩
        rcases f with rfl | ⟨l, rfl, hl⟩
        · exact hw.ne hD
        · intro z
          cases z
          rw [hDo] at hl
          cases hl
      match i, z, hz with
      | 0, _, rfl =>
        refine cp_el (l10 _) (ox.ex (e2.trans p1)) fun x' H3 e3 c f => ?_
        obtain ⟨c', ne⟩ := fresh p1 (ox.ex e2) c ⟨_, p2 rfl⟩ f
        exact ⟨[], e3 _ _ (p2 rfl), by show 0 < sizeLine; decide, (p1.trans e3).mut hD, (fun z => nomatch z), (fun _ => ⟨x', upd_same, c'.upd ne, ne⟩), (fun z => nomatch z)⟩
      | 1, _, rfl =>
        obtain ⟨x', hDx, cx, nx⟩ := p3 rfl
        refine cp_el (l10 _) (oy.ex (e2.trans p1)) fun y' H3 e3 c f => ?_
        obtain ⟨c', ne⟩ := fresh p1 (oy.ex e2) c ⟨_, hDx⟩ f
        exact ⟨[x'], e3 _ _ hDx, by show 1 < sizeLine; decide, (p1.trans e3).mut hD, (fun z => nomatch z), (fun z => nomatch z), (fun _ => ⟨x', y', upd_same, (cx.ex p1 e3).upd nx, c'.upd ne⟩)⟩
      | n + 2, _, hz => cases hz
    · obtain ⟨p1, p2, p3, p4⟩ := p
      obtain ⟨x', y', h1, h2, h3⟩ := p4 rfl
      exact k D x' y' H' p1 hD h1 h2 h3
  cases gx : goodV x with
  | true =>
    obtain ⟨i, rfl, i0⟩ := good_int gx
    cases gy : goodV y with
    | true =>
      obtain ⟨j, rfl, j0⟩ := good_int gy
      have m12 : mo = 1 ∨ mo = 2 := by rw [hmo]; cases kn <;> simp
      refine ⟨_, rfl, _, rfl, hd.ex e1, _, rfl, ?_⟩
      rw [gx]
      refine iteF ⟨_, rfl, _, rfl, hd2.ex e1, _, rfl, ?_⟩
      rw [gy]
      refine iteF ?_
      refine ⟨_, rfl, rfl, _, rfl, iteT ?_⟩
      obtain ⟨as, r1, r2, r3⟩ := tb.ex e1
      obtain ⟨k1, hk1, hk1b, at1⟩ := tab_at i0 j0 m12
      obtain ⟨k2, hk2, hk2b, at2⟩ := tab_at j0 i0 m12
      have ha1 : as[k1]? = some (as[k1]'(by omega)) := List.getElem?_eq_getElem _
      have ha2 : as[k2]? = some (as[k2]'(by omega)) := List.getElem?_eq_getElem _
      refine s_asgU (xs := [.int (gr i (j + mo)), .int (gr j (i + mo))]) (eu_tup (ea_cons (ev_op (ev_op (ev_var rfl) (ev_op (ev_var rfl) (ev_var rfl) rv_I0) (rv_ixL (SqL.of r2) (at_of hk1 (refs_get ha1)))) (ev_var rfl) (rv_ixL (SqL.of (r3 _ _ ha1)) at1))
        (ea_cons (ev_op (ev_op (ev_var rfl) (ev_op (ev_var rfl) (ev_var rfl) rv_I0) (rv_ixL (SqL.of r2) (at_of hk2 (refs_get ha2)))) (ev_var rfl) (rv_ixL (SqL.of (r3 _ _ ha2)) at2)) ea_nil)) (by show 2 ≤ 100000; decide)) (fun du H2 hdu e2 h2 => ?_)
      refine copy rfl (fun _ => rfl) (show 10 < 11 by decide) (e1.trans e2) (e2 _ _ hL) fun D x' y' H3 e3 hD0 hD cx cy => ?_
      obtain rfl := cx.2.2.2 i rfl
      obtain rfl := cy.2.2.2 j rfl
      refine ⟨_, rfl, _, rfl, _, rfl, D, _, _, _, rfl, rfl, SqL.of hD, rfl, _, rfl, D, _, _, _, rfl, rfl, SqL.of hD, rfl, kn, nm, .int i, .int j, rfl, .int, .int, fun i' j' ei ej _ _ p t H4 e4 hp ht => ?_, fun c => absurd gx (by rw [c]; decide), fun _ c => absurd gy (by rw [c]; decide)⟩
      cases ei
      cases ej
      rw [← hmo] at hp
      refine ⟨_, rfl, rfl, _, rfl, iteT ?_⟩
      refine ⟨_, rfl, t, _, _, _, rfl, rfl, SqT.of ht, rfl, rfl, _, rfl, iteT ?_⟩
      refine ⟨_, rfl, t, _, _, _, rfl, rfl, SqT.of ht, rfl, _, rfl, _, _, rfl, .tup (xs := [gr i (j + mo), gr j (i + mo)].map V.int) (ys := [gr i (j + mo), gr j (i + mo)].map V.int) (SqT.of hp) (SqT.of (e4 _ _ (e3 _ _ h2))) rfl (by show 2 ≤ 1000; decide) Sm.ints, fun H5 e5 => q H5 ((((e1.trans e2).trans e3).trans e4).trans e5)⟩
    | false =>
      refine ⟨_, rfl, _, rfl, hd.ex e1, _, rfl, ?_⟩
      rw [gx]
      refine iteF ⟨_, rfl, _, rfl, hd2.ex e1, _, rfl, ?_⟩
      rw [gy]
      refine iteT ?_
      refine ⟨_, rfl, rfl, _, rfl, iteF ?_⟩
      refine copy rfl (fun _ => rfl) (show 10 < 11 by decide) e1 hL fun D x' y' H3 e3 hD0 hD cx cy => ?_
      obtain rfl := cx.2.2.2 i rfl
      refine ⟨_, rfl, _, rfl, _, rfl, D, _, _, _, rfl, rfl, SqL.of hD, rfl, _, rfl, D, _, _, _, rfl, rfl, SqL.of hD, rfl, kn, nm, .int i, y', rfl, .int, cy.1.dat, fun i' j' ei ej _ hj p t H4 e4 hp ht => ?_, fun c => absurd gx (by rw [c]; decide), fun _ c t H4 e4 ht => ?_⟩
      · have := cy.2.1
        rw [gy, ej] at this
        exact absurd hj (of_decide_eq_false this)
      have ov := (cy.ex e3 e4).1
      have fresh := (cy.ex e3 e4).2.2.1
      refine ⟨_, rfl, rfl, _, rfl, iteF ?_⟩
      refine ⟨_, rfl, t, _, _, _, rfl, rfl, SqT.of ht, rfl, two_le, fun p5 hp5 => ⟨_, rfl, p5, _, _, _, rfl, rfl, SqL.of upd_same, rfl, rfl, _, rfl, iteF ?_⟩⟩
      have e5 := Ex.new (o := .lst [.str "own", .str "other"]) hp5
      generalize upd H4 p5 (.lst [.str "own", .str "other"]) = H5 at e5 ⊢
      have hD5 := e5 _ _ (e4 _ _ hD)
      have ht5 := e5 _ _ ht
      have e05 : Ex H H5 := ((e1.trans e3).trans e4).trans e5
      cases ov with
      | non => exact ⟨_, rfl, _, rfl, D, _, _, _, rfl, rfl, SqL.of hD5, rfl, _, .ty "list", _, _, false, rfl, .ty "list", .base .non, kit_ty (by decide +kernel), false, rfl, iteF ⟨_, rfl, _, rfl, D, _, _, _, rfl, rfl, SqL.of hD5, rfl, _, .ty "dict", _, _, false, rfl, .ty "dict", .base .non, kit_ty (by decide +kernel), false, rfl, iteF ⟨_, rfl, t, _, _, _, rfl, rfl, SqT.of ht5, rfl, _, rfl, _, rfl, D, _, _, _, rfl, rfl, SqL.of hD5, rfl, _, _, rfl, .non, fun H6 e6 => q H6 (e05.trans e6)⟩⟩⟩
      | bl b => exact ⟨_, rfl, _, rfl, D, _, _, _, rfl, rfl, SqL.of hD5, rfl, _, .ty "list", _, _, false, rfl, .ty "list", .base (.bl b), kit_ty (by decide +kernel), false, rfl, iteF ⟨_, rfl, _, rfl, D, _, _, _, rfl, rfl, SqL.of hD5, rfl, _, .ty "dict", _, _, false, rfl, .ty "dict", .base (.bl b), kit_ty (by decide +kernel), false, rfl, iteF ⟨_, rfl, t, _, _, _, rfl, rfl, SqT.of ht5, rfl, _, rfl, _, rfl, D, _, _, _, rfl, rfl, SqL.of hD5, rfl, _, _, rfl, .bl b, fun H6 e6 => q H6 (e05.trans e6)⟩⟩⟩
      | int i => exact ⟨_, rfl, _, rfl, D, _, _, _, rfl, rfl, SqL.of hD5, rfl, _, .ty "list", _, _, false, rfl, .ty "list", .base (.int i), kit_ty (by decide +kernel), false, rfl, iteF ⟨_, rfl, _, rfl, D, _, _, _, rfl, rfl, SqL.of hD5, rfl, _, .ty "dict", _, _, false, rfl, .ty "dict", .base (.int i), kit_ty (by decide +kernel), false, rfl, iteF ⟨_, rfl, t, _, _, _, rfl, rfl, SqT.of ht5, rfl, _, rfl, _, rfl, D, _, _, _, rfl, rfl, SqL.of hD5, rfl, _, _, rfl, .int i, fun H6 e6 => q H6 (e05.trans e6)⟩⟩⟩
      | str z h => exact ⟨_, rfl, _, rfl, D, _, _, _, rfl, rfl, SqL.of hD5, rfl, _, .ty "list", _, _, false, rfl, .ty "list", .base (.str z), kit_ty (by decide +kernel), false, rfl, iteF ⟨_, rfl, _, rfl, D, _, _, _, rfl, rfl, SqL.of hD5, rfl, _, .ty "dict", _, _, false, rfl, .ty "dict", .base (.str z), kit_ty (by decide +kernel), false, rfl, iteF ⟨_, rfl, t, _, _, _, rfl, rfl, SqT.of ht5, rfl, _, rfl, _, rfl, D, _, _, _, rfl, rfl, SqL.of hD5, rfl, _, _, rfl, .str z h, fun H6 e6 => q H6 (e05.trans e6)⟩⟩⟩
      | tup h hz => exact ⟨_, rfl, _, rfl, D, _, _, _, rfl, rfl, SqL.of hD5, rfl, _, .ty "list", _, _, false, rfl, .ty "list", tyT (SqT.of (e5 _ _ h)), kit_ty (by decide +kernel), false, rfl, iteF ⟨_, rfl, _, rfl, D, _, _, _, rfl, rfl, SqL.of hD5, rfl, _, .ty "dict", _, _, false, rfl, .ty "dict", tyT (SqT.of (e5 _ _ h)), kit_ty (by decide +kernel), false, rfl, iteF ⟨_, rfl, t, _, _, _, rfl, rfl, SqT.of ht5, rfl, _, rfl, _, rfl, D, _, _, _, rfl, rfl, SqL.of hD5, rfl, _, _, rfl, .tup (SqT.of (e5 _ _ h)) (SqT.of (e5 _ _ h)) rfl (by rw [List.length_map]; omega) Sm.ints, fun H6 e6 => q H6 (e05.trans e6)⟩⟩⟩
      | @lst l ns h hz =>
        have hl0 : H l = none := fresh_back e1 (fresh l _ rfl h)
        have h5 := e5 _ _ h
        have nD : D ≠ l := by
          rintro rfl
          rw [h5] at hD5
          have z := HO.lst.inj (Option.some.inj hD5)
          match ns, z with
          | [], z => cases z
          | [_], z => cases z
          | [a, b], z => cases z
        have nt : t ≠ l := by
          rintro rfl
          rw [h5] at ht5
          cases ht5
        refine ⟨_, rfl, _, rfl, D, _, _, _, rfl, rfl, SqL.of hD5, rfl, _, .ty "list", _, _, true, rfl, .ty "list", tyL (SqL.of h5), kit_ty (by decide +kernel), true, rfl, iteT ?_⟩
        refine ⟨_, rfl, _, rfl, D, _, _, _, rfl, rfl, SqL.of hD5, rfl, .inl ⟨rfl, _, SqL.of h5⟩, l, _, _, rfl, rfl, h5, small1000 (by rw [List.length_map]; omega), ?_⟩
        have e6 : Ex H (upd H5 l (.lst (ns.map V.int ++ [.int 7]))) := e05.mut hl0
        have h6 : upd H5 l (.lst (ns.map V.int ++ [.int 7])) l = some (.lst (ns.map V.int ++ [.int 7])) := upd_same
        have hD6 : upd H5 l (.lst (ns.map V.int ++ [.int 7])) D = _ := (upd_ne nD).trans hD5
        have ht6 : upd H5 l (.lst (ns.map V.int ++ [.int 7])) t = _ := (upd_ne nt).trans ht5
        generalize upd H5 l (.lst (ns.map V.int ++ [.int 7])) = H6 at e6 h6 hD6 ht6 ⊢
        refine ⟨_, rfl, t, _, _, _, rfl, rfl, SqT.of ht6, rfl, _, .ty "list", _, _, true, rfl, .ty "list", tyL (SqL.of h6), kit_ty (by decide +kernel), true, rfl, iteT ⟨_, rfl, t, _, _, _, rfl, rfl, SqT.of ht6, rfl, _, _, rfl, .inl ⟨_, SqL.of h6, rfl⟩, _, rfl, _, rfl, D, _, _, _, rfl, rfl, SqL.of hD6, rfl, _, _, rfl, .inl ⟨_, SqL.of h6, rfl⟩, rfl, ?_⟩⟩
        rw [decide_eq_true rfl]
        exact q _ e6
      | dct h =>
        have h5 := e5 _ _ h
        refine ⟨_, rfl, _, rfl, D, _, _, _, rfl, rfl, SqL.of hD5, rfl, _, .ty "list", _, _, false, rfl, .ty "list", .base (.dK h5), kit_ty (by decide +kernel), false, rfl, iteF ⟨_, rfl, _, rfl, D, _, _, _, rfl, rfl, SqL.of hD5, rfl, _, .ty "dict", _, _, true, rfl, .ty "dict", .base (.dK h5), kit_ty (by decide +kernel), true, rfl, iteT ?_⟩⟩
        refine ⟨_, rfl, t, _, _, _, rfl, rfl, SqT.of ht5, rfl, _, .ty "dict", _, _, true, rfl, .ty "dict", .base (.dK h5), kit_ty (by decide +kernel), true, rfl, iteT ⟨_, rfl, t, _, _, _, rfl, rfl, SqT.of ht5, rfl, _, _, rfl, h5, _, rfl, _, rfl, D, _, _, _, rfl, rfl, SqL.of hD5, rfl, _, _, rfl, h5, rfl, ?_⟩⟩
        rw [decide_eq_true rfl]
        exact q _ e05
  | false =>
    refine ⟨_, rfl, _, rfl, hd.ex e1, _, rfl, ?_⟩
    rw [gx]
    refine iteT ?_
    refine ⟨_, rfl, rfl, _, rfl, iteF ?_⟩
    refine copy rfl (fun _ => rfl) (show 10 < 11 by decide) e1 hL fun D x' y' H3 e3 hD0 hD cx cy => ?_
    have gx' : goodV x' = false := cx.2.1.trans gx
    refine ⟨_, rfl, _, rfl, _, rfl, D, _, _, _, rfl, rfl, SqL.of hD, rfl, _, rfl, D, _, _, _, rfl, rfl, SqL.of hD, rfl, kn, nm, x', y', rfl, cx.1.dat, cy.1.dat, fun i' j' ei ej hi _ p t H4 e4 hp ht => ?_, fun _ t H4 e4 ht => ?_, fun c => absurd c (by rw [gx']; decide)⟩
    · rw [ei] at gx'
      exact absurd hi (of_decide_eq_false gx')
    have ov := (cx.ex e3 e4).1
    have fresh := (cx.ex e3 e4).2.2.1
    refine ⟨_, rfl, rfl, _, rfl, iteF ?_⟩
    refine ⟨_, rfl, t, _, _, _, rfl, rfl, SqT.of ht, rfl, two_le, fun p5 hp5 => ⟨_, rfl, p5, _, _, _, rfl, rfl, SqL.of upd_same, rfl, rfl, _, rfl, iteF ?_⟩⟩
    have e5 := Ex.new (o := .lst [.str "own", .str "other"]) hp5
    generalize upd H4 p5 (.lst [.str "own", .str "other"]) = H5 at e5 ⊢
    have hD5 := e5 _ _ (e4 _ _ hD)
    have ht5 := e5 _ _ ht
    have e05 : Ex H H5 := ((e1.trans e3).trans e4).trans e5
    cases ov with
    | non => exact ⟨_, rfl, _, rfl, D, _, _, _, rfl, rfl, SqL.of hD5, rfl, _, .ty "list", _, _, false, rfl, .ty "list", .base .non, kit_ty (by decide +kernel), false, rfl, iteF ⟨_, rfl, _, rfl, D, _, _, _, rfl, rfl, SqL.of hD5, rfl, _, .ty "dict", _, _, false, rfl, .ty "dict", .base .non, kit_ty (by decide +kernel), false, rfl, iteF ⟨_, rfl, t, _, _, _, rfl, rfl, SqT.of ht5, rfl, _, rfl, _, rfl, D, _, _, _, rfl, rfl, SqL.of hD5, rfl, _, _, rfl, .non, fun H6 e6 => q H6 (e05.trans e6)⟩⟩⟩
    | bl b => exact ⟨_, rfl, _, rfl, D, _, _, _, rfl, rfl, SqL.of hD5, rfl, _, .ty "list", _, _, false, rfl, .ty "list", .base (.bl b), kit_ty (by decide +kernel), false, rfl, iteF ⟨_, rfl, _, rfl, D, _, _, _, rfl, rfl, SqL.of hD5, rfl, _, .ty "dict", _, _, false, rfl, .ty "dict", .base (.bl b), kit_ty (by decide +kernel), false, rfl, iteF ⟨_, rfl, t, _, _, _, rfl, rfl, SqT.of ht5, rfl, _, rfl, _, rfl, D, _, _, _, rfl, rfl, SqL.of hD5, rfl, _, _, rfl, .bl b, fun H6 e6 => q H6 (e05.trans e6)⟩⟩⟩
    | int i => exact ⟨_, rfl, _, rfl, D, _, _, _, rfl, rfl, SqL.of hD5, rfl, _, .ty "list", _, _, false, rfl, .ty "list", .base (.int i), kit_ty (by decide +kernel), false, rfl, iteF ⟨_, rfl, _, rfl, D, _, _, _, rfl, rfl, SqL.of hD5, rfl, _, .ty "dict", _, _, false, rfl, .ty "dict", .base (.int i), kit_ty (by decide +kernel), false, rfl, iteF ⟨_, rfl, t, _, _, _, rfl, rfl, SqT.of ht5, rfl, _, rfl, _, rfl, D, _, _, _, rfl, rfl, SqL.of hD5, rfl, _, _, rfl, .int i, fun H6 e6 => q H6 (e05.trans e6)⟩⟩⟩
    | str z h => exact ⟨_, rfl, _, rfl, D, _, _, _, rfl, rfl, SqL.of hD5, rfl, _, .ty "list", _, _, false, rfl, .ty "list", .base (.str z), kit_ty (by decide +kernel), false, rfl, iteF ⟨_, rfl, _, rfl, D, _, _, _, rfl, rfl, SqL.of hD5, rfl, _, .ty "dict", _, _, false, rfl, .ty "dict", .base (.str z), kit_ty (by decide +kernel), false, rfl, iteF ⟨_, rfl, t, _, _, _, rfl, rfl, SqT.of ht5, rfl, _, rfl, _, rfl, D, _, _, _, rfl, rfl, SqL.of hD5, rfl, _, _, rfl, .str z h, fun H6 e6 => q H6 (e05.trans e6)⟩⟩⟩
    | tup h hz => exact ⟨_, rfl, _, rfl, D, _, _, _, rfl, rfl, SqL.of hD5, rfl, _, .ty "list", _, _, false, rfl, .ty "list", tyT (SqT.of (e5 _ _ h)), kit_ty (by decide +kernel), false, rfl, iteF ⟨_, rfl, _, rfl, D, _, _, _, rfl, rfl, SqL.of hD5, rfl, _, .ty "dict", _, _, false, rfl, .ty "dict", tyT (SqT.of (e5 _ _ h)), kit_ty (by decide +kernel), false, rfl, iteF ⟨_, rfl, t, _, _, _, rfl, rfl, SqT.of ht5, rfl, _, rfl, _, rfl, D, _, _, _, rfl, rfl, SqL.of hD5, rfl, _, _, rfl, .tup (SqT.of (e5 _ _ h)) (SqT.of (e5 _ _ h)) rfl (by rw [List.length_map]; omega) Sm.ints, fun H6 e6 => q H6 (e05.trans e6)⟩⟩⟩
    | @lst l ns h hz =>
      have hl0 : H l = none := fresh_back e1 (fresh l _ rfl h)
      have h5 := e5 _ _ h
      have nD : D ≠ l := by
        rintro rfl
        rw [h5] at hD5
        have z := HO.lst.inj (Option.some.inj hD5)
        match ns, z with
        | [], z => cases z
        | [_], z => cases z
        | [a, b], z => cases z
      have nt : t ≠ l := by
        rintro rfl
        rw [h5] at ht5
        cases ht5
      refine ⟨_, rfl, _, rfl, D, _, _, _, rfl, rfl, SqL.of hD5, rfl, _, .ty "list", _, _, true, rfl, .ty "list", tyL (SqL.of h5), kit_ty (by decide +kernel), true, rfl, iteT ?_⟩
      refine ⟨_, rfl, _, rfl, D, _, _, _, rfl, rfl, SqL.of hD5, rfl, .inl ⟨rfl, _, SqL.of h5⟩, l, _, _, rfl, rfl, h5, small1000 (by rw [List.length_map]; omega), ?_⟩
      have e6 : Ex H (upd H5 l (.lst (ns.map V.int ++ [.int 7]))) := e05.mut hl0
      have h6 : upd H5 l (.lst (ns.map V.int ++ [.int 7])) l = some (.lst (ns.map V.int ++ [.int 7])) := upd_same
      have hD6 : upd H5 l (.lst (ns.map V.int ++ [.int 7])) D = _ := (upd_ne nD).trans hD5
      have ht6 : upd H5 l (.lst (ns.map V.int ++ [.int 7])) t = _ := (upd_ne nt).trans ht5
      generalize upd H5 l (.lst (ns.map V.int ++ [.int 7])) = H6 at e6 h6 hD6 ht6 ⊢
      refine ⟨_, rfl, t, _, _, _, rfl, rfl, SqT.of ht6, rfl, _, .ty "list", _, _, true, rfl, .ty "list", tyL (SqL.of h6), kit_ty (by decide +kernel), true, rfl, iteT ⟨_, rfl, t, _, _, _, rfl, rfl, SqT.of ht6, rfl, _, _, rfl, .inl ⟨_, SqL.of h6, rfl⟩, _, rfl, _, rfl, D, _, _, _, rfl, rfl, SqL.of hD6, rfl, _, _, rfl, .inl ⟨_, SqL.of h6, rfl⟩, rfl, ?_⟩⟩
      rw [decide_eq_true rfl]
      exact q _ e6
    | dct h =>
      have h5 := e5 _ _ h
      refine ⟨_, rfl, _, rfl, D, _, _, _, rfl, rfl, SqL.of hD5, rfl, _, .ty "list", _, _, false, rfl, .ty "list", .base (.dK h5), kit_ty (by decide +kernel), false, rfl, iteF ⟨_, rfl, _, rfl, D, _, _, _, rfl, rfl, SqL.of hD5, rfl, _, .ty "dict", _, _, true, rfl, .ty "dict", .base (.dK h5), kit_ty (by decide +kernel), true, rfl, iteT ?_⟩⟩
      refine ⟨_, rfl, t, _, _, _, rfl, rfl, SqT.of ht5, rfl, _, .ty "dict", _, _, true, rfl, .ty "dict", .base (.dK h5), kit_ty (by decide +kernel), true, rfl, iteT ⟨_, rfl, t, _, _, _, rfl, rfl, SqT.of ht5, rfl, _, _, rfl, h5, _, rfl, _, rfl, D, _, _, _, rfl, rfl, SqL.of hD5, rfl, _, _, rfl, h5, rfl, ?_⟩⟩
      rw [decide_eq_true rfl]
      exact q _ e05
end
end L2.U


set_option Elab.async false
set_option linter.all false
set_option maxRecDepth 100000
set_option maxHeartbeats 4000000
namespace L2.U
open PySem PySem.Spec PyProof.Rows Evl

section
variable {P : Program} {w : World} {K : PySem.W.Frag} {mg : Str → Option Value} {base : Heap}
theorem but_fresh {H H' : Hp} {b f : Addr} {n m : Nat} (k : But b H H') (hb : BoxAt H b n) (hb2 : BoxAt H' b m) (h : H' f = none) : H f = none := by
  obtain ⟨o, ho⟩ := hb.some
  exact k.none ho h (hb2.ne h)
def spOdd : Sp := fun vs H Q _ => ∃ (b : Addr) (g : Int) (n : Nat), vs = [.ref b, .int g] ∧ BoxAt H b (n + 1) ∧ ∀ x H', Od H' x → BoxAt H' b n → But b H H' → Q x H'
theorem ok_law_odd (T : TK K mg) : FnOk P w K mg base CX0 2 T.law_odd.a T.law_odd.fd ["box", "good"] spOdd := by
  refine T.law_odd.F.ok sc_law_odd (fun vs H Q E h => ?_) (fun cdv A outer s H vs Q E hr h => ?_)
  · obtain ⟨b, g, n, rfl, _⟩ := h; rfl
  obtain ⟨b, g, n, rfl, hB, q⟩ := h
  refine ⟨_, (pss_cons (ps_set (i := 2) sc_law_odd.nd rfl (Or.inl rfl) (pe_lst (pa_cons pe_int (pa_cons pe_int (pa_cons (pe_un un_neg pe_int) (pa_cons pe_int (pa_cons pe_int (pa_cons pe_bl (pa_cons pe_bl (pa_cons pe_non (pa_cons pe_str (pa_cons pe_str (pa_cons (pe_lst (pa_cons (pv 1) pa_nil)) (pa_cons (pe_tup (pa_cons (pv 1) pa_nil)) (pa_cons pe_dnewK (pa_cons (pe_op op_pow pe_int pe_int) (pa_cons (pe_un un_neg (pv 1)) (pa_cons (pe_lst pa_nil) (pa_cons (pe_callTy (call_dictP rfl) (by rfl) T.z_dict (by decide +kernel) (pa_cons (pe_lst (pa_cons (pe_tup (pa_cons pe_str (pa_cons (pv 1) pa_nil))) pa_nil)) pa_nil)) pa_nil)))))))))))))))))))
    (pss_one (ps_ret (pe_ix (kixl K) (pv 2) (pe_call (ok_law_take T.toTA1) (hr.mono (by decide)) rfl T.law_take.m T.law_take.F.kp T.law_take.b .nil pass0 (pa_cons (pv 0) (pa_cons pe_int pa_nil))) (fun _ _ => rfl))))), ?_⟩
  refine ⟨1, rfl, _, rfl, (by show 1 ≤ sizeLine; decide), fun p1 h1 => ?_⟩
  refine ⟨_, rfl, (by show 1 ≤ sizeLine; decide), fun p2 h2 => fun p3 h3 => ?_⟩
  refine ⟨_, _, rfl, rfl, ⟨by decide, by decide, by decide⟩, ?_⟩
  refine ⟨_, rfl, g, rfl, Nat.zero_le _, fun p4 h4 => ?_⟩
  refine ⟨_, rfl, two_le, fun p5 h5 => ⟨(by show 1 ≤ sizeLine; decide), fun p6 h6 => ?_⟩⟩
  have y1 : Ex H (upd H p1 (.lst [.int g])) := Ex.new h1
  have u1 : upd H p1 (.lst [.int g]) p1 = some (.lst [.int g]) := upd_same
  generalize upd H p1 (.lst [.int g]) = G1 at *
  have y2 : Ex G1 (upd G1 p2 (.tup [.int g])) := Ex.new h2
  have u2 : upd G1 p2 (.tup [.int g]) p2 = some (.tup [.int g]) := upd_same
  generalize upd G1 p2 (.tup [.int g]) = G2 at *
  have y3 : Ex G2 (upd G2 p3 (.dK [])) := Ex.new h3
  have u3 : upd G2 p3 (.dK []) p3 = some (.dK []) := upd_same
  generalize upd G2 p3 (.dK []) = G3 at *
  have y4 : Ex G3 (upd G3 p4 (.lst [])) := Ex.new h4
  have u4 : upd G3 p4 (.lst []) p4 = some (.lst []) := upd_same
  generalize upd G3 p4 (.lst []) = G4 at *
  have y5 : Ex G4 (upd G4 p5 (.tup [.str "own", .int g])) := Ex.new h5
  have u5 : upd G4 p5 (.tup [.str "own", .int g]) p5 = some (.tup [.str "own", .int g]) := upd_same
  generalize upd G4 p5 (.tup [.str "own", .int g]) = G5 at *
  have y6 : Ex G5 (upd G5 p6 (.lst [.ref p5])) := Ex.new h6
  have u6 : upd G5 p6 (.lst [.ref p5]) p6 = some (.lst [.ref p5]) := upd_same
  generalize upd G5 p6 (.lst [.ref p5]) = G6 at *
  refine ⟨p6, [p5], [(.inr "own", .int g)], rfl, SqL.of u6, .cons (SqT.of (y6 _ _ u5)) .nil, fun p7 h7 => ⟨(by show 17 ≤ sizeLine; decide), fun L hL => ?_⟩⟩
  have y7 : Ex G6 (upd G6 p7 (.dK (mergeK [] [(.inr "own", .int g)]))) := Ex.new h7
  have u7 : upd G6 p7 (.dK (mergeK [] [(.inr "own", .int g)])) p7 = some (.dK (mergeK [] [(.inr "own", .int g)])) := upd_same
  generalize upd G6 p7 (.dK (mergeK [] [(.inr "own", .int g)])) = G7 at *
  have z6 := y7
  have z5 := y6.trans z6
  have z4 := y5.trans z5
  have z3 := y4.trans z4
  have z2 := y3.trans z3
  have z1 := y2.trans z2
  have z0 := y1.trans z1
  generalize hxs : ([.int 1, .int 0, .int (-1), .int 17, .int 18, .bl true, .bl false, .non, .str "2", .str "", .ref p1, .ref p2, .ref p3, .int (10 ^ (40 : Int).toNat), .int (-g), .ref p4, .ref p7] : List V) = xs
  have all : ∀ v ∈ xs, Od G7 v := by
    subst hxs
    intro v hv
    simp only [List.mem_cons, List.not_mem_nil, or_false] at hv
    rcases hv with rfl | rfl | rfl | rfl | rfl | rfl | rfl | rfl | rfl | rfl | rfl | rfl | rfl | rfl | rfl | rfl | rfl
    · exact .int _
    · exact .int _
    · exact .int _
    · exact .int _
    · exact .int _
    · exact .bl _
    · exact .bl _
    · exact .non
    · exact .str _ (by decide +kernel)
    · exact .str _ (by decide +kernel)
    · exact .lst (ns := [g]) (z1 _ _ u1) (by show 1 ≤ 2; decide)
    · exact .tup (ns := [g]) (z2 _ _ u2) (by show 1 ≤ 2; decide)
    · exact .dct (z3 _ _ u3)
    · exact .int _
    · exact .int _
    · exact .lst (ns := []) (z4 _ _ u4) (Nat.zero_le _)
    · exact .dct u7
  have hlen : xs.length = 17 := by rw [← hxs]; rfl
  show ∃ _, _
  have eL : Ex G7 (upd G7 L (.lst xs)) := Ex.new hL
  have uL : upd G7 L (.lst xs) L = some (.lst xs) := upd_same
  have BL := hB.ex (z0.trans eL)
  have LB : L ≠ b := (hB.ex z0).ne hL
  refine ⟨_, rfl, _, rfl, b, 17, n, rfl, by decide, by decide, BL, fun r H8 r1 r2 B8 k8 => ?_⟩
  obtain ⟨v, hat, hg⟩ := at_get (xs := xs) r1 (by rw [hlen]; exact r2)
  exact ⟨_, _, _, _, rfl, rfl, SqL.of (k8 _ _ LB uL), hat, q v H8 (((all v (List.mem_of_getElem? hg)).ex eL).but k8 BL) B8 ((But.of (z0.trans eL)).trans k8)⟩
theorem mm (L : Int) : 1 ≤ (if (if L < 2 then L else 2) > 1 then (if L < 2 then L else 2) else 1) ∧ (if (if L < 2 then L else 2) > 1 then (if L < 2 then L else 2) else 1) ≤ 2 := by
  by_cases c : L < 2
  · rw [if_pos c]; split <;> omega
  · rw [if_neg c]; split <;> omega
def Pr2 (H : Hp) (v : V) : Prop := ∃ a x y, v = .ref a ∧ H a = some (.tup [x, y]) ∧ Od H x ∧ Od H y
theorem Pr2.ex {H H' : Hp} {v : V} (e : Ex H H') (h : Pr2 H v) : Pr2 H' v := by
  obtain ⟨a, x, y, h1, h2, h3, h4⟩ := h
  exact ⟨a, x, y, h1, e _ _ h2, h3.ex e, h4.ex e⟩
def spLaw (K : PySem.W.Frag) : Sp := fun vs H Q _ => ∃ (a : Addr) (ns : List Int), vs = [.ref a] ∧ SqL K H a (ns.map V.int) ∧ ns.length ≤ 63 ∧ ∀ H', Q (.bl true) H'
theorem ok_law (T : TK K mg) : FnOk P w K mg base CX0 11 T.law.a T.law.fd ["script"] (spLaw K) := by
  refine T.law.F.ok sc_law (fun vs H Q E h => ?_) (fun cdv A0 outer s0 H vs Q E hr h => ?_)
  · obtain ⟨a, ns, rfl, _⟩ := h; rfl
  obtain ⟨a, ns, rfl, hS, h63, q⟩ := h
  refine ⟨_, (pss_cons (ps_set (i := 1) sc_law.nd rfl (Or.inl rfl) (pe_call0 (ok_law_most T) (hr.mono (by decide)) rfl T.law_most.m T.law_most.F.kp T.law_most.b .nil pass0))
    (pss_cons (ps_for PassesOwn.never rfl (pi_range1 rfl T.z_range (pa_cons (pe_callB (call_max2 rfl) (by rfl) T.z_max (by decide +kernel) (pa_cons pe_int (pa_cons (pe_callB (call_min2 rfl) (by rfl) T.z_min (by decide +kernel) (pa_cons pe_int (pa_cons (pe_callB (klen K) (by rfl) T.z_len (by decide +kernel) (pa_cons (pv 0) pa_nil)) pa_nil))) pa_nil))) pa_nil)) (pg_name (i := 2) sc_law.nd rfl (Or.inl rfl)) (pss_cons (ps_set (i := 3) sc_law.nd rfl (Or.inl rfl) (pe_call (ok_law_box T.toTA1) (hr.mono (by decide)) rfl T.law_box.m T.law_box.F.kp T.law_box.b .nil pass0 (pa_cons (pe_call (ok_law_cell T.toTA1) (hr.mono (by decide)) rfl T.law_cell.m T.law_cell.F.kp T.law_cell.b .nil pass0 (pa_cons (pv 0) (pa_cons (pv 2) pa_nil))) pa_nil)))
    (pss_cons (ps_set (i := 4) sc_law.nd rfl (Or.inl rfl) (pe_call (ok_law_take T.toTA1) (hr.mono (by decide)) rfl T.law_take.m T.law_take.F.kp T.law_take.b .nil pass0 (pa_cons (pv 3) (pa_cons pe_int pa_nil))))
    (pss_cons (ps_for PassesOwn.never rfl (pi_range1 rfl T.z_range (pa_cons pe_int pa_nil)) (pg_name (i := 5) sc_law.nd rfl (Or.inl rfl)) (pss_cons (ps_par3 (i := 6) (j := 7) (l := 8) (by rfl) sc_law.nd rfl rfl rfl (by decide) (by decide) (by decide) rfl rfl rfl (pa_cons (pe_call (ok_law_take T.toTA1) (hr.mono (by decide)) rfl T.law_take.m T.law_take.F.kp T.law_take.b .nil pass0 (pa_cons (pv 3) (pa_cons pe_int pa_nil))) (pa_cons (pe_op op_add pe_int (pe_call (ok_law_take T.toTA1) (hr.mono (by decide)) rfl T.law_take.m T.law_take.F.kp T.law_take.b .nil pass0 (pa_cons (pv 3) (pa_cons pe_int pa_nil)))) (pa_cons (pe_op op_add pe_int (pe_call (ok_law_take T.toTA1) (hr.mono (by decide)) rfl T.law_take.m T.law_take.F.kp T.law_take.b .nil pass0 (pa_cons (pv 3) (pa_cons pe_int pa_nil)))) pa_nil))) (by rfl))
    (pss_cut (ps_if (pt_cmpR op_eq (pv 6) pe_int (nomark _)) (pss_one (ps_set (i := 8) sc_law.nd rfl (Or.inl rfl) (pv 7))) pss_nil)
    (pss_cut (ps_if (pt_cmpR op_eq (pv 6) pe_int (nomark _)) (pss_one (ps_set (i := 8) sc_law.nd rfl (Or.inl rfl) (pe_callB (call_min2 rfl) (by rfl) T.z_min (by decide +kernel) (pa_cons pe_int (pa_cons (pe_op op_add (pv 7) pe_int) pa_nil))))) pss_nil)
    (pss_one (ps_for PassesOwn.never rfl (kpil K (pe_lst (pa_cons pe_bl (pa_cons pe_bl (pa_cons pe_bl pa_nil))))) (pg_name (i := 9) sc_law.nd rfl (Or.inl rfl)) (pss_cons (ps_if (pt_not (pt_val (pe_call (ok_law_right T) (hr.mono (by decide)) rfl T.law_right.m T.law_right.F.kp T.law_right.b .nil pass0 (pa_cons (pv 1) (pa_cons (pv 9) (pa_cons (pe_op op_mod (pe_callTy call_int1 (by rfl) T.z_int (by decide +kernel) (pa_cons (pe_op op_add (pv 4) (pv 5)) pa_nil)) pe_int) (pa_cons (pv 7) (pa_cons (pv 8) pa_nil)))))))) (pss_one (ps_ret pe_bl)) pss_nil)
    (pss_one (ps_if (pt_not (pt_val (pe_call (ok_law_right T) (hr.mono (by decide)) rfl T.law_right.m T.law_right.F.kp T.law_right.b .nil pass0 (pa_cons (pv 1) (pa_cons (pv 9) (pa_cons (pe_op op_mod (pe_callTy call_int1 (by rfl) T.z_int (by decide +kernel) (pa_cons (pe_op op_add (pv 4) (pv 5)) pa_nil)) pe_int) (pa_cons (pv 8) (pa_cons (pv 7) pa_nil)))))))) (pss_one (ps_ret pe_bl)) pss_nil)))))))))
    (pss_one (ps_for PassesOwn.never rfl (pi_range1 rfl T.z_range (pa_cons pe_int pa_nil)) (pg_name (i := 5) sc_law.nd rfl (Or.inl rfl)) (pss_cons (ps_par3 (i := 6) (j := 7) (l := 8) (by rfl) sc_law.nd rfl rfl rfl (by decide) (by decide) (by decide) rfl rfl rfl (pa_cons (pe_call (ok_law_take T.toTA1) (hr.mono (by decide)) rfl T.law_take.m T.law_take.F.kp T.law_take.b .nil pass0 (pa_cons (pv 3) (pa_cons pe_int pa_nil))) (pa_cons (pe_op op_add pe_int (pe_call (ok_law_take T.toTA1) (hr.mono (by decide)) rfl T.law_take.m T.law_take.F.kp T.law_take.b .nil pass0 (pa_cons (pv 3) (pa_cons pe_int pa_nil)))) (pa_cons (pe_op op_add pe_int (pe_call (ok_law_take T.toTA1) (hr.mono (by decide)) rfl T.law_take.m T.law_take.F.kp T.law_take.b .nil pass0 (pa_cons (pv 3) (pa_cons pe_int pa_nil)))) pa_nil))) (by rfl))
    (pss_cons (ps_par (i := 10) (j := 11) (by rfl) sc_law.nd rfl rfl (by decide) rfl rfl (pa_cons (pe_call (ok_law_odd T) (hr.mono (by decide)) rfl T.law_odd.m T.law_odd.F.kp T.law_odd.b .nil pass0 (pa_cons (pv 3) (pa_cons (pv 7) pa_nil))) (pa_cons (pe_call (ok_law_odd T) (hr.mono (by decide)) rfl T.law_odd.m T.law_odd.F.kp T.law_odd.b .nil pass0 (pa_cons (pv 3) (pa_cons (pv 8) pa_nil))) pa_nil)) (by rfl))
    (pss_cons (ps_set (i := 12) sc_law.nd rfl (Or.inl rfl) (pe_lst (pa_cons (pe_tup (pa_cons (pv 10) (pa_cons (pv 8) pa_nil))) (pa_cons (pe_tup (pa_cons (pv 7) (pa_cons (pv 10) pa_nil))) (pa_cons (pe_tup (pa_cons (pv 10) (pa_cons (pv 11) pa_nil))) (pa_cons (pe_tup (pa_cons pe_int (pa_cons pe_int pa_nil))) (pa_cons (pe_tup (pa_cons pe_int (pa_cons pe_int pa_nil))) pa_nil)))))))
    (pss_one (ps_for PassesOwn.never rfl (kpil K (pe_lst (pa_cons (pe_ix (kixl K) (pv 12) (pv 6) (fun _ _ => rfl)) (pa_cons (pe_ix (kixl K) (pv 12) (pe_op op_add pe_int (pe_op op_mod (pe_callTy call_int1 (by rfl) T.z_int (by decide +kernel) (pa_cons (pv 5) pa_nil)) pe_int)) (fun _ _ => rfl)) pa_nil)))) (pg_name (i := 13) sc_law.nd rfl (Or.inl rfl)) (pss_one (ps_if (pt_not (pt_val (pe_call (ok_law_right T) (hr.mono (by decide)) rfl T.law_right.m T.law_right.F.kp T.law_right.b .nil pass0 (pa_cons (pv 1) (pa_cons (pe_cmpR op_gt (pe_op op_mod (pe_callTy call_int1 (by rfl) T.z_int (by decide +kernel) (pa_cons (pv 5) pa_nil)) pe_int) pe_int (nomark _)) (pa_cons (pe_op op_mod (pe_callTy call_int1 (by rfl) T.z_int (by decide +kernel) (pa_cons (pe_op op_add (pv 4) (pv 5)) pa_nil)) pe_int) (pa_cons (pe_ix (kixt K) (pv 13) pe_int (fun _ _ => rfl)) (pa_cons (pe_ix (kixt K) (pv 13) pe_int (fun _ _ => rfl)) pa_nil)))))))) (pss_one (ps_ret pe_bl)) pss_nil)))))))))))))
    (pss_one (ps_ret pe_bl)))), ?_⟩
  refine ⟨rfl, fun tr H0 e0 tb0 => ?_⟩
  have hS0 := ex_l e0 hS
  refine ⟨_, rfl, _, _, rfl, .inl ⟨_, hS0, rfl⟩, _, _, rfl, _, _, rfl, _, rfl, ?_, ?_, for_range (lo := 0) (n := _)
    (fun k σ H' => Ex H0 H' ∧ ∃ x2 x3 x4 x5 x6 x7 x8 x9 x10 x11 x12 x13, σ = [some (.ref a), some (.ref tr), x2, x3, x4, x5, x6, x7, x8, x9, x10, x11, x12, x13]) ⟨Ex.refl _, _, _, _, _, _, _, _, _, _, _, _, _, rfl⟩ ?_ ?_⟩
  · have := (mm ((ns.map V.int).length : Int)).1
    exact Int.le_trans (by decide) this
  · have := (mm ((ns.map V.int).length : Int)).2
    exact Int.lt_of_le_of_lt this (by decide)
  case refine_4 =>
    rintro σ H1 _
    exact q H1
  rintro k σ H1 hk ⟨e1, x2, x3, x4, x5, x6, x7, x8, x9, x10, x11, x12, x13, rfl⟩
  have hS1 := ex_l e1 hS0
  have hk2 : k ≤ 2 := by
    have := (mm ((ns.map V.int).length : Int)).2
    omega
  refine ⟨_, rfl, _, rfl, a, ns, _, rfl, hS1, by omega, by omega, fun v H2 e2 => ?_⟩
  refine ⟨v, rfl, fun b H3 hb0 e3 B3 => ?_⟩
  have E13 := e2.trans e3
  have b0 : H1 b = none := fresh_back e2 hb0
  have exb : ∀ {G G' : Hp}, Ex H1 G → But b G G' → Ex H1 G' := fun e k c o h => k c o (ne_of_none h b0) (e c o h)
  refine ⟨_, rfl, b, 2, 999999, rfl, by decide, by decide, B3, fun named H4 n0 n1 B4 k4 => ?_⟩
  have E14 := exb E13 k4
  refine ⟨20, rfl, by decide, by decide, for_range (lo := 0) (n := 20)
    (fun i σ H' => Ex H1 H' ∧ BoxAt H' b (999900 - 3 * i) ∧ ∃ x5 x6 x7 x8 x9, σ = [some (.ref a), some (.ref tr), some (.int (0 + (k : Int))), some (.ref b), some (.int named), x5, x6, x7, x8, x9, x10, x11, x12, x13])
    ⟨E14, B4.le (by decide), _, _, _, _, _, rfl⟩ ?_ ?_⟩
  · rintro i σ G0 hi ⟨g0, C0, y5, y6, y7, y8, y9, rfl⟩
    obtain ⟨m, hm⟩ : ∃ m, 999900 - 3 * i = m + 3 := ⟨999900 - 3 * i - 3, by omega⟩
    have hm2 : 999900 - 3 * (i + 1) = m := by omega
    rw [hm] at C0
    refine ⟨_, rfl, b, 6, m + 2, rfl, by decide, by decide, C0, fun way G1 w0 w1 C1 k1 => ?_⟩
    refine ⟨_, rfl, b, 15, m + 1, rfl, by decide, by decide, C1, fun r1 G2 r10 r11 C2 k2 => ⟨2, r1, rfl, rfl, ?_⟩⟩
    refine ⟨_, rfl, b, 15, m, rfl, by decide, by decide, C2, fun r2 G3 r20 r21 C3 k3 => ⟨2, r2, rfl, rfl, ⟨_, _, _, rfl, ?_⟩⟩⟩
    have g3 := exb (exb (exb g0 k1) k2) k3
    refine ⟨fun σ' H' => H' = G3 ∧ ∃ o : Int, σ' = [some (.ref a), some (.ref tr), some (.int (0 + (k : Int))), some (.ref b), some (.int named), some (.int (0 + (i : Int))), some (.int way), some (.int (2 + r1)), some (.int o), y9, x10, x11, x12, x13], ?_, ?_⟩
    · exact ⟨_, rfl, rfl, _, rfl, ite2 (fun _ => ⟨_, rfl, rfl, _, rfl⟩) (fun _ => ⟨rfl, _, rfl⟩)⟩
    rintro σ' G3' ⟨rfl, o, rfl⟩
    refine ⟨fun σ' H' => H' = G3' ∧ ∃ o : Int, σ' = [some (.ref a), some (.ref tr), some (.int (0 + (k : Int))), some (.ref b), some (.int named), some (.int (0 + (i : Int))), some (.int way), some (.int (2 + r1)), some (.int o), y9, x10, x11, x12, x13], ?_, ?_⟩
    · exact ⟨_, rfl, rfl, _, rfl, ite2 (fun _ => ⟨_, rfl, _, _, rfl, rfl, _, _, rfl, rfl, _, rfl⟩) (fun _ => ⟨rfl, _, rfl⟩)⟩
    rintro σ' G3 ⟨rfl, o, rfl⟩
    refine ⟨(by show 3 ≤ sizeLine; decide), fun p hp => ⟨p, rfl, ⟨_, SqL.of upd_same⟩, for_list (xs := [.bl true, .bl false, .bl true]) (fun _ σ H' => H' p = some (.lst [.bl true, .bl false, .bl true]) ∧ Ex G3 H' ∧ ∃ y9, σ = [some (.ref a), some (.ref tr), some (.int (0 + (k : Int))), some (.ref b), some (.int named), some (.int (0 + (i : Int))), some (.int way), some (.int (2 + r1)), some (.int o), y9, x10, x11, x12, x13])
      ⟨upd_same, Ex.new hp, _, rfl⟩ (fun _ _ _ _ z => SqL.of z.1) ?_ ?_⟩⟩
    · rintro j x σ G5 hx ⟨hp5, g5, y9, rfl⟩
      obtain ⟨kb, rfl⟩ : ∃ kb, x = .bl kb := by
        match j, hx with
        | 0, hx => exact ⟨_, (Option.some.inj hx).symm⟩
        | 1, hx => exact ⟨_, (Option.some.inj hx).symm⟩
        | 2, hx => exact ⟨_, (Option.some.inj hx).symm⟩
        | n + 3, hx => cases hx
      have tb5 := tb0.ex (e1.trans (g3.trans g5))
      refine ⟨_, rfl, _, rfl, _, rfl, _, rfl, _, _, rfl, rfl, .inl ⟨_, rfl, _, _, rfl, rfl, (show (0 : Int) < 2 by decide), _, rfl, _, rfl, tr, kb, _, _, _, rfl, tb5, .int _, .int _, fun G6 e6 => ⟨true, rfl, iteF ?_⟩⟩⟩
      refine ⟨_, rfl, _, rfl, _, rfl, _, rfl, _, _, rfl, rfl, .inl ⟨_, rfl, _, _, rfl, rfl, (show (0 : Int) < 2 by decide), _, rfl, _, rfl, tr, kb, _, _, _, rfl, tb5.ex e6, .int _, .int _, fun G7 e7 => ⟨true, rfl, iteF ?_⟩⟩⟩
      exact ⟨e7 _ _ (e6 _ _ hp5), g5.trans (e6.trans e7), _, rfl⟩
    · rintro σ G5 ⟨_, g5, y9, rfl⟩
      refine ⟨g3.trans g5, ?_, _, _, _, _, _, rfl⟩
      rw [hm2]
      exact C3.ex g5
  · rintro σ G0 ⟨g0, C0, y5, y6, y7, y8, y9, rfl⟩
    refine ⟨12, rfl, by decide, by decide, for_range (lo := 0) (n := 12)
      (fun i σ H' => Ex H1 H' ∧ BoxAt H' b (900000 - 5 * i) ∧ ∃ x5 x6 x7 x8 x10 x11 x12 x13, σ = [some (.ref a), some (.ref tr), some (.int (0 + (k : Int))), some (.ref b), some (.int named), x5, x6, x7, x8, y9, x10, x11, x12, x13])
      ⟨g0, C0.le (by decide), _, _, _, _, _, _, _, _, rfl⟩ ?_ ?_⟩
    · rintro i σ G0 hi ⟨g0, C0, y5, y6, y7, y8, y10, y11, y12, y13, rfl⟩
      obtain ⟨m, hm⟩ : ∃ m, 900000 - 5 * i = m + 5 := ⟨900000 - 5 * i - 5, by omega⟩
      have hm2 : 900000 - 5 * (i + 1) = m := by omega
      rw [hm] at C0
      refine ⟨_, rfl, b, 3, m + 4, rfl, by decide, by decide, C0, fun way G1 w0 w1 C1 k1 => ?_⟩
      refine ⟨_, rfl, b, 15, m + 3, rfl, by decide, by decide, C1, fun r1 G2 r10 r11 C2 k2 => ⟨2, r1, rfl, rfl, ?_⟩⟩
      refine ⟨_, rfl, b, 15, m + 2, rfl, by decide, by decide, C2, fun r2 G3 r20 r21 C3 k3 => ⟨2, r2, rfl, rfl, ⟨_, _, _, rfl, ?_⟩⟩⟩
      refine ⟨_, rfl, _, rfl, b, _, m + 1, rfl, C3, fun x G4 ox C4 k4 => ⟨_, rfl, _, rfl, b, _, m, rfl, C4, fun y G5 oy C5 k5 => ⟨_, _, rfl, ?_⟩⟩⟩
      have ox5 := ox.but k5 C4
      have g5 := exb (exb (exb (exb (exb g0 k1) k2) k3) k4) k5
      refine ⟨_, rfl, _, rfl, two_le, fun t1 h1 => ⟨_, rfl, _, rfl, two_le, fun t2 h2 => ⟨_, rfl, _, rfl, two_le, fun t3 h3 => ⟨two_le, fun t4 h4 => ⟨two_le, fun t5 h5 => ⟨(by show 5 ≤ sizeLine; decide), fun PL hPL => ?_⟩⟩⟩⟩⟩⟩
      have z1 : Ex G5 (upd G5 t1 (.tup [x, .int (2 + r2)])) := Ex.new h1
      have u1 : upd G5 t1 (.tup [x, .int (2 + r2)]) t1 = some (.tup [x, .int (2 + r2)]) := upd_same
      generalize upd G5 t1 (.tup [x, .int (2 + r2)]) = F1 at *
      have z2 : Ex F1 (upd F1 t2 (.tup [.int (2 + r1), x])) := Ex.new h2
      have u2 : upd F1 t2 (.tup [.int (2 + r1), x]) t2 = some (.tup [.int (2 + r1), x]) := upd_same
      generalize upd F1 t2 (.tup [.int (2 + r1), x]) = F2 at *
      have z3 : Ex F2 (upd F2 t3 (.tup [x, y])) := Ex.new h3
      have u3 : upd F2 t3 (.tup [x, y]) t3 = some (.tup [x, y]) := upd_same
      generalize upd F2 t3 (.tup [x, y]) = F3 at *
      have z4 : Ex F3 (upd F3 t4 (.tup [.int 2, .int 16])) := Ex.new h4
      have u4 : upd F3 t4 (.tup [.int 2, .int 16]) t4 = some (.tup [.int 2, .int 16]) := upd_same
      generalize upd F3 t4 (.tup [.int 2, .int 16]) = F4 at *
      have z5 : Ex F4 (upd F4 t5 (.tup [.int 16, .int 2])) := Ex.new h5
      have u5 : upd F4 t5 (.tup [.int 16, .int 2]) t5 = some (.tup [.int 16, .int 2]) := upd_same
      generalize upd F4 t5 (.tup [.int 16, .int 2]) = F5 at *
      have z6 : Ex F5 (upd F5 PL (.lst [.ref t1, .ref t2, .ref t3, .ref t4, .ref t5])) := Ex.new hPL
      have u6 : upd F5 PL (.lst [.ref t1, .ref t2, .ref t3, .ref t4, .ref t5]) PL = some (.lst [.ref t1, .ref t2, .ref t3, .ref t4, .ref t5]) := upd_same
      have a6 : Ex G5 (upd F5 PL (.lst [.ref t1, .ref t2, .ref t3, .ref t4, .ref t5])) := ((((z1.trans z2).trans z3).trans z4).trans z5).trans z6
      generalize upd F5 PL (.lst [.ref t1, .ref t2, .ref t3, .ref t4, .ref t5]) = F6 at *
      have all : ∀ v ∈ [V.ref t1, .ref t2, .ref t3, .ref t4, .ref t5], Pr2 F6 v := by
        intro v hv
        simp only [List.mem_cons, List.not_mem_nil, or_false] at hv
        rcases hv with rfl | rfl | rfl | rfl | rfl
        · exact ⟨_, _, _, rfl, z6 _ _ (z5 _ _ (z4 _ _ (z3 _ _ (z2 _ _ u1)))), ox5.ex a6, .int _⟩
        · exact ⟨_, _, _, rfl, z6 _ _ (z5 _ _ (z4 _ _ (z3 _ _ u2))), .int _, ox5.ex a6⟩
        · exact ⟨_, _, _, rfl, z6 _ _ (z5 _ _ (z4 _ _ u3)), ox5.ex a6, oy.ex a6⟩
        · exact ⟨_, _, _, rfl, z6 _ _ (z5 _ _ u4), .int _, .int _⟩
        · exact ⟨_, _, _, rfl, z6 _ _ u5, .int _, .int _⟩
      obtain ⟨v1, at1, m1⟩ := at_get (xs := [V.ref t1, .ref t2, .ref t3, .ref t4, .ref t5]) w0 (by show way < 5; omega)
      have md : 0 ≤ (0 + (i : Int)) % 2 ∧ (0 + (i : Int)) % 2 < 2 := fmod_in (by decide)
      obtain ⟨v2, at2, m2⟩ := at_get (xs := [V.ref t1, .ref t2, .ref t3, .ref t4, .ref t5]) (k := 3 + (0 + (i : Int)) % 2) (by omega) (by show 3 + (0 + (i : Int)) % 2 < 5; omega)
      have p1 := all v1 (List.mem_of_getElem? m1)
      have p2 := all v2 (List.mem_of_getElem? m2)
      have C6 := C5.ex a6
      have g6 := g5.trans a6
      refine ⟨_, rfl, _, rfl, PL, _, _, _, rfl, rfl, SqL.of u6, at1, _, rfl, _, rfl, .inl ⟨_, rfl, _, _, rfl, rfl, (show (0 : Int) < 2 by decide), 3, _, rfl, rfl, PL, _, _, _, rfl, rfl, SqL.of u6, at2, two_le, fun p hp => ⟨p, rfl, ⟨_, SqL.of upd_same⟩, for_list (xs := [v1, v2])
        (fun _ σ H' => H' p = some (.lst [v1, v2]) ∧ Ex F6 H' ∧ ∃ y13, σ = [some (.ref a), some (.ref tr), some (.int (0 + (k : Int))), some (.ref b), some (.int named), some (.int (0 + (i : Int))), some (.int way), some (.int (2 + r1)), some (.int (2 + r2)), y9, some x, some y, some (.ref PL), y13])
        ⟨upd_same, Ex.new hp, _, rfl⟩ (fun _ _ _ _ z => SqL.of z.1) ?_ ?_⟩⟩⟩
      · rintro j w σ G7 hw ⟨hp7, g7, y13, rfl⟩
        have pw : Pr2 F6 w := by
          match j, hw with
          | 0, hx => rw [← Option.some.inj hx]; exact p1
          | 1, hx => rw [← Option.some.inj hx]; exact p2
          | n + 2, hx => cases hx
        obtain ⟨ta, xa, ya, rfl, ht, oxa, oya⟩ := pw.ex g7
        have tb7 := tb0.ex (e1.trans (g6.trans g7))
        refine ⟨_, rfl, _, rfl, .inl ⟨_, rfl, _, _, rfl, rfl, (show (0 : Int) < 4 by decide), _, _, rfl, rfl, ?_⟩⟩
        refine ⟨_, rfl, _, rfl, _, _, rfl, rfl, .inl ⟨_, rfl, _, _, rfl, rfl, (show (0 : Int) < 2 by decide), _, rfl, ta, _, _, _, rfl, rfl, SqT.of ht, rfl, _, rfl, ta, _, _, _, rfl, rfl, SqT.of ht, rfl, tr, _, _, xa, ya, rfl, tb7, oxa, oya, fun G8 e8 => ⟨true, rfl, iteF ?_⟩⟩⟩
        exact ⟨e8 _ _ hp7, g7.trans e8, _, rfl⟩
      · rintro σ G7 ⟨_, g7, y13, rfl⟩
        refine ⟨g6.trans g7, ?_, _, _, _, _, _, _, _, _, rfl⟩
        rw [hm2]
        exact C6.ex g7
    · rintro σ G0 ⟨g0, C0, y5, y6, y7, y8, y10, y11, y12, y13, rfl⟩
      exact ⟨e1.trans g0, _, _, _, _, _, _, _, _, _, _, _, _, rfl⟩
end
end L2.U


set_option Elab.async false
set_option linter.all false
set_option maxRecDepth 100000
set_option maxHeartbeats 4000000
namespace L2.U
open PySem PySem.Spec PyProof.Rows Evl
theorem exm_of {K : PySem.W.Frag} {C D : Addr} {b : Bool} (h1 : PySem.W.subIn K (.ref D) (.type "BaseException") = some true) (h2 : PySem.W.isClsIn K D = true) (h3 : PySem.W.typeIn K (.ref D) = some (.type "type"))
    (h4 : PySem.W.subIn K (.ref C) (.ref D) = some b) : PySem.W.exmOne K (.ref C) (.ref D) = some b := by
  have h2' : (PySem.W.clsIn K D).isSome = true := h2
  unfold PySem.W.exmOne
  rw [h1, if_pos (by rfl)]
  unfold PySem.W.kitCls
  simp only [h2', h3, h4, beq_self_eq_true, Bool.and_self, if_true]
def mkDef {K : PySem.W.Frag} {h : Heap} {mg : Str → Option Value} (X : K.In h) (G : h.Ns mainGlobals mg) {x : Str} {st : Stmt} {ps : List Str} {f : Addr} {od an : Option Addr} {sl : Array (Option Value)} {oc kV dc pm cd ct : Value}
    (a : PySem.W.nsIn K mainGlobals x = some (some (.ref f))) (l : K.lookup f = some ⟨oc, od, .func (PySem.W.fnOf x x (defArgs st) (defBody st) (defScope st) .none kV dc pm an cd ct), sl⟩) (c : PySem.W.codeIn K cd x = true) (k : PySem.W.keepIn K (.ref f) = true)
    (h2 : ∀ (kV doc pm : Value) (an : Option Addr) (cdv ct : Value) (us : List Value), us.length = ps.length → bindArgs (PySem.W.fnOf x x (defArgs st) (defBody st) (defScope st) .none kV doc pm an cdv ct) ⟨us, []⟩ = pure (ps.zip us)) : DefAt K mg x st ps :=
  ⟨f, _, fun_mk (st := st) l c k, PySem.W.mg_of X G a, (fun_mk (st := st) l c k).binds h2⟩

theorem all_mk {l : PySem.W.OpenLaw} {w : World} {K : PySem.W.Frag} {h : Heap} {mg : Str → Option Value} {fa : Addr} (X : K.In h) (G : h.Ns mainGlobals mg) (hfa : mg "law" = some (.ref fa))
    {f1 : Addr} {od1 an1 : Option Addr} {sl1 : Array (Option Value)} {oc1 kV1 dc1 pm1 cd1 ct1 : Value}
    {f2 : Addr} {od2 an2 : Option Addr} {sl2 : Array (Option Value)} {oc2 kV2 dc2 pm2 cd2 ct2 : Value}
    {f3 : Addr} {od3 an3 : Option Addr} {sl3 : Array (Option Value)} {oc3 kV3 dc3 pm3 cd3 ct3 : Value}
    {f4 : Addr} {od4 an4 : Option Addr} {sl4 : Array (Option Value)} {oc4 kV4 dc4 pm4 cd4 ct4 : Value}
    {f5 : Addr} {od5 an5 : Option Addr} {sl5 : Array (Option Value)} {oc5 kV5 dc5 pm5 cd5 ct5 : Value}
    {f6 : Addr} {od6 an6 : Option Addr} {sl6 : Array (Option Value)} {oc6 kV6 dc6 pm6 cd6 ct6 : Value}
    {f7 : Addr} {od7 an7 : Option Addr} {sl7 : Array (Option Value)} {oc7 kV7 dc7 pm7 cd7 ct7 : Value}
    {f8 : Addr} {od8 an8 : Option Addr} {sl8 : Array (Option Value)} {oc8 kV8 dc8 pm8 cd8 ct8 : Value}
    {f9 : Addr} {od9 an9 : Option Addr} {sl9 : Array (Option Value)} {oc9 kV9 dc9 pm9 cd9 ct9 : Value}
    {f10 : Addr} {od10 an10 : Option Addr} {sl10 : Array (Option Value)} {oc10 kV10 dc10 pm10 cd10 ct10 : Value}
    {f11 : Addr} {od11 an11 : Option Addr} {sl11 : Array (Option Value)} {oc11 kV11 dc11 pm11 cd11 ct11 : Value}
    {f12 : Addr} {od12 an12 : Option Addr} {sl12 : Array (Option Value)} {oc12 kV12 dc12 pm12 cd12 ct12 : Value}
    {f13 : Addr} {od13 an13 : Option Addr} {sl13 : Array (Option Value)} {oc13 kV13 dc13 pm13 cd13 ct13 : Value}
    {f14 : Addr} {od14 an14 : Option Addr} {sl14 : Array (Option Value)} {oc14 kV14 dc14 pm14 cd14 ct14 : Value}
    {f15 : Addr} {od15 an15 : Option Addr} {sl15 : Array (Option Value)} {oc15 kV15 dc15 pm15 cd15 ct15 : Value}
    {f16 : Addr} {od16 an16 : Option Addr} {sl16 : Array (Option Value)} {oc16 kV16 dc16 pm16 cd16 ct16 : Value}
    {f17 : Addr} {od17 an17 : Option Addr} {sl17 : Array (Option Value)} {oc17 kV17 dc17 pm17 cd17 ct17 : Value}
    {f18 : Addr} {od18 an18 : Option Addr} {sl18 : Array (Option Value)} {oc18 kV18 dc18 pm18 cd18 ct18 : Value}
    {f19 : Addr} {od19 an19 : Option Addr} {sl19 : Array (Option Value)} {oc19 kV19 dc19 pm19 cd19 ct19 : Value}
    {f20 : Addr} {od20 an20 : Option Addr} {sl20 : Array (Option Value)} {oc20 kV20 dc20 pm20 cd20 ct20 : Value}
    {f21 : Addr} {od21 an21 : Option Addr} {sl21 : Array (Option Value)} {oc21 kV21 dc21 pm21 cd21 ct21 : Value}
    {f22 : Addr} {od22 an22 : Option Addr} {sl22 : Array (Option Value)} {oc22 kV22 dc22 pm22 cd22 ct22 : Value}
    {f23 : Addr} {od23 an23 : Option Addr} {sl23 : Array (Option Value)} {oc23 kV23 dc23 pm23 cd23 ct23 : Value}
    {t_HIGHEST : Tok}
    {t_FEWEST_KINDS : Tok}
    {t_MOST_KINDS : Tok}
    {CT : Addr}
    {CInvalidNumber NInvalidNumber fIInvalidNumber : Addr} {nmInvalidNumber qInvalidNumber : Str} {bsInvalidNumber : List Value} {snInvalidNumber : List Str} {subInvalidNumber : List Value} {abInvalidNumber : Bool} {colInvalidNumber : Option Bool} {ddInvalidNumber : Option Addr} {m0InvalidNumber m1InvalidNumber m2InvalidNumber m3InvalidNumber m5InvalidNumber : Option Value}
    {odInvalidNumber anInvalidNumber : Option Addr} {slInvalidNumber : Array (Option Value)} {ocInvalidNumber kVInvalidNumber dcInvalidNumber pmInvalidNumber cdInvalidNumber ctInvalidNumber : Value}
    {CInvalidMany NInvalidMany fIInvalidMany : Addr} {nmInvalidMany qInvalidMany : Str} {bsInvalidMany : List Value} {snInvalidMany : List Str} {subInvalidMany : List Value} {abInvalidMany : Bool} {colInvalidMany : Option Bool} {ddInvalidMany : Option Addr} {m0InvalidMany m1InvalidMany m2InvalidMany m3InvalidMany m5InvalidMany : Option Value}
    {odInvalidMany anInvalidMany : Option Addr} {slInvalidMany : Array (Option Value)} {ocInvalidMany kVInvalidMany dcInvalidMany pmInvalidMany cdInvalidMany ctInvalidMany : Value}
    {CInvalidParts NInvalidParts fIInvalidParts : Addr} {nmInvalidParts qInvalidParts : Str} {bsInvalidParts : List Value} {snInvalidParts : List Str} {subInvalidParts : List Value} {abInvalidParts : Bool} {colInvalidParts : Option Bool} {ddInvalidParts : Option Addr} {m0InvalidParts m1InvalidParts m2InvalidParts m3InvalidParts m5InvalidParts : Option Value}
    {odInvalidParts anInvalidParts : Option Addr} {slInvalidParts : Array (Option Value)} {ocInvalidParts kVInvalidParts dcInvalidParts pmInvalidParts cdInvalidParts ctInvalidParts : Value}
    {CInvalidOwn NInvalidOwn fIInvalidOwn : Addr} {nmInvalidOwn qInvalidOwn : Str} {bsInvalidOwn : List Value} {snInvalidOwn : List Str} {subInvalidOwn : List Value} {abInvalidOwn : Bool} {colInvalidOwn : Option Bool} {ddInvalidOwn : Option Addr} {m0InvalidOwn m1InvalidOwn m2InvalidOwn m3InvalidOwn m5InvalidOwn : Option Value}
    {odInvalidOwn anInvalidOwn : Option Addr} {slInvalidOwn : Array (Option Value)} {ocInvalidOwn kVInvalidOwn dcInvalidOwn pmInvalidOwn cdInvalidOwn ctInvalidOwn : Value}
    {CInvalidOther NInvalidOther fIInvalidOther : Addr} {nmInvalidOther qInvalidOther : Str} {bsInvalidOther : List Value} {snInvalidOther : List Str} {subInvalidOther : List Value} {abInvalidOther : Bool} {colInvalidOther : Option Bool} {ddInvalidOther : Option Addr} {m0InvalidOther m1InvalidOther m2InvalidOther m3InvalidOther m5InvalidOther : Option Value}
    {odInvalidOther anInvalidOther : Option Addr} {slInvalidOther : Array (Option Value)} {ocInvalidOther kVInvalidOther dcInvalidOther pmInvalidOther cdInvalidOther ctInvalidOther : Value}
    (a1 : PySem.W.nsIn K mainGlobals "is_integer" = some (some (.ref f1)))
    (l1 : K.lookup f1 = some ⟨oc1, od1, .func (PySem.W.fnOf "is_integer" "is_integer" (defArgs s_is_integer) (defBody s_is_integer) (defScope s_is_integer) .none kV1 dc1 pm1 an1 cd1 ct1), sl1⟩)
    (c1 : PySem.W.codeIn K cd1 "is_integer" = true)
    (k1 : PySem.W.keepIn K (.ref f1) = true)
    (a2 : PySem.W.nsIn K mainGlobals "is_between" = some (some (.ref f2)))
    (l2 : K.lookup f2 = some ⟨oc2, od2, .func (PySem.W.fnOf "is_between" "is_between" (defArgs s_is_between) (defBody s_is_between) (defScope s_is_between) .none kV2 dc2 pm2 an2 cd2 ct2), sl2⟩)
    (c2 : PySem.W.codeIn K cd2 "is_between" = true)
    (k2 : PySem.W.keepIn K (.ref f2) = true)
    (a3 : PySem.W.nsIn K mainGlobals "is_from" = some (some (.ref f3)))
    (l3 : K.lookup f3 = some ⟨oc3, od3, .func (PySem.W.fnOf "is_from" "is_from" (defArgs s_is_from) (defBody s_is_from) (defScope s_is_from) .none kV3 dc3 pm3 an3 cd3 ct3), sl3⟩)
    (c3 : PySem.W.codeIn K cd3 "is_from" = true)
    (k3 : PySem.W.keepIn K (.ref f3) = true)
    (a4 : PySem.W.nsIn K mainGlobals "is_list" = some (some (.ref f4)))
    (l4 : K.lookup f4 = some ⟨oc4, od4, .func (PySem.W.fnOf "is_list" "is_list" (defArgs s_is_list) (defBody s_is_list) (defScope s_is_list) .none kV4 dc4 pm4 an4 cd4 ct4), sl4⟩)
    (c4 : PySem.W.codeIn K cd4 "is_list" = true)
    (k4 : PySem.W.keepIn K (.ref f4) = true)
    (a5 : PySem.W.nsIn K mainGlobals "are_from" = some (some (.ref f5)))
    (l5 : K.lookup f5 = some ⟨oc5, od5, .func (PySem.W.fnOf "are_from" "are_from" (defArgs s_are_from) (defBody s_are_from) (defScope s_are_from) .none kV5 dc5 pm5 an5 cd5 ct5), sl5⟩)
    (c5 : PySem.W.codeIn K cd5 "are_from" = true)
    (k5 : PySem.W.keepIn K (.ref f5) = true)
    (a6 : PySem.W.nsIn K mainGlobals "arrangements" = some (some (.ref f6)))
    (l6 : K.lookup f6 = some ⟨oc6, od6, .func (PySem.W.fnOf "arrangements" "arrangements" (defArgs s_arrangements) (defBody s_arrangements) (defScope s_arrangements) .none kV6 dc6 pm6 an6 cd6 ct6), sl6⟩)
    (c6 : PySem.W.codeIn K cd6 "arrangements" = true)
    (k6 : PySem.W.keepIn K (.ref f6) = true)
    (a7 : PySem.W.nsIn K mainGlobals "even_parts" = some (some (.ref f7)))
    (l7 : K.lookup f7 = some ⟨oc7, od7, .func (PySem.W.fnOf "even_parts" "even_parts" (defArgs s_even_parts) (defBody s_even_parts) (defScope s_even_parts) .none kV7 dc7 pm7 an7 cd7 ct7), sl7⟩)
    (c7 : PySem.W.codeIn K cd7 "even_parts" = true)
    (k7 : PySem.W.keepIn K (.ref f7) = true)
    (a8 : PySem.W.nsIn K mainGlobals "_check_number" = some (some (.ref f8)))
    (l8 : K.lookup f8 = some ⟨oc8, od8, .func (PySem.W.fnOf "_check_number" "_check_number" (defArgs s_check_number) (defBody s_check_number) (defScope s_check_number) .none kV8 dc8 pm8 an8 cd8 ct8), sl8⟩)
    (c8 : PySem.W.codeIn K cd8 "_check_number" = true)
    (k8 : PySem.W.keepIn K (.ref f8) = true)
    (a9 : PySem.W.nsIn K mainGlobals "_check_many" = some (some (.ref f9)))
    (l9 : K.lookup f9 = some ⟨oc9, od9, .func (PySem.W.fnOf "_check_many" "_check_many" (defArgs s_check_many) (defBody s_check_many) (defScope s_check_many) .none kV9 dc9 pm9 an9 cd9 ct9), sl9⟩)
    (c9 : PySem.W.codeIn K cd9 "_check_many" = true)
    (k9 : PySem.W.keepIn K (.ref f9) = true)
    (a10 : PySem.W.nsIn K mainGlobals "greatest_by" = some (some (.ref f10)))
    (l10 : K.lookup f10 = some ⟨oc10, od10, .func (PySem.W.fnOf "greatest_by" "greatest_by" (defArgs s_greatest_by) (defBody s_greatest_by) (defScope s_greatest_by) .none kV10 dc10 pm10 an10 cd10 ct10), sl10⟩)
    (c10 : PySem.W.codeIn K cd10 "greatest_by" = true)
    (k10 : PySem.W.keepIn K (.ref f10) = true)
    (a11 : PySem.W.nsIn K mainGlobals "both" = some (some (.ref f11)))
    (l11 : K.lookup f11 = some ⟨oc11, od11, .func (PySem.W.fnOf "both" "both" (defArgs s_both) (defBody s_both) (defScope s_both) .none kV11 dc11 pm11 an11 cd11 ct11), sl11⟩)
    (c11 : PySem.W.codeIn K cd11 "both" = true)
    (k11 : PySem.W.keepIn K (.ref f11) = true)
    (a12 : PySem.W.nsIn K mainGlobals "both_known" = some (some (.ref f12)))
    (l12 : K.lookup f12 = some ⟨oc12, od12, .func (PySem.W.fnOf "both_known" "both_known" (defArgs s_both_known) (defBody s_both_known) (defScope s_both_known) .none kV12 dc12 pm12 an12 cd12 ct12), sl12⟩)
    (c12 : PySem.W.codeIn K cd12 "both_known" = true)
    (k12 : PySem.W.keepIn K (.ref f12) = true)
    (a13 : PySem.W.nsIn K mainGlobals "_check_kinds" = some (some (.ref f13)))
    (l13 : K.lookup f13 = some ⟨oc13, od13, .func (PySem.W.fnOf "_check_kinds" "_check_kinds" (defArgs s_check_kinds) (defBody s_check_kinds) (defScope s_check_kinds) .none kV13 dc13 pm13 an13 cd13 ct13), sl13⟩)
    (c13 : PySem.W.codeIn K cd13 "_check_kinds" = true)
    (k13 : PySem.W.keepIn K (.ref f13) = true)
    (a14 : PySem.W.nsIn K mainGlobals "_law_cell" = some (some (.ref f14)))
    (l14 : K.lookup f14 = some ⟨oc14, od14, .func (PySem.W.fnOf "_law_cell" "_law_cell" (defArgs s_law_cell) (defBody s_law_cell) (defScope s_law_cell) .none kV14 dc14 pm14 an14 cd14 ct14), sl14⟩)
    (c14 : PySem.W.codeIn K cd14 "_law_cell" = true)
    (k14 : PySem.W.keepIn K (.ref f14) = true)
    (a15 : PySem.W.nsIn K mainGlobals "_law_box" = some (some (.ref f15)))
    (l15 : K.lookup f15 = some ⟨oc15, od15, .func (PySem.W.fnOf "_law_box" "_law_box" (defArgs s_law_box) (defBody s_law_box) (defScope s_law_box) .none kV15 dc15 pm15 an15 cd15 ct15), sl15⟩)
    (c15 : PySem.W.codeIn K cd15 "_law_box" = true)
    (k15 : PySem.W.keepIn K (.ref f15) = true)
    (a16 : PySem.W.nsIn K mainGlobals "_law_take" = some (some (.ref f16)))
    (l16 : K.lookup f16 = some ⟨oc16, od16, .func (PySem.W.fnOf "_law_take" "_law_take" (defArgs s_law_take) (defBody s_law_take) (defScope s_law_take) .none kV16 dc16 pm16 an16 cd16 ct16), sl16⟩)
    (c16 : PySem.W.codeIn K cd16 "_law_take" = true)
    (k16 : PySem.W.keepIn K (.ref f16) = true)
    (a17 : PySem.W.nsIn K mainGlobals "_law_same" = some (some (.ref f17)))
    (l17 : K.lookup f17 = some ⟨oc17, od17, .func (PySem.W.fnOf "_law_same" "_law_same" (defArgs s_law_same) (defBody s_law_same) (defScope s_law_same) .none kV17 dc17 pm17 an17 cd17 ct17), sl17⟩)
    (c17 : PySem.W.codeIn K cd17 "_law_same" = true)
    (k17 : PySem.W.keepIn K (.ref f17) = true)
    (a18 : PySem.W.nsIn K mainGlobals "_law_most" = some (some (.ref f18)))
    (l18 : K.lookup f18 = some ⟨oc18, od18, .func (PySem.W.fnOf "_law_most" "_law_most" (defArgs s_law_most) (defBody s_law_most) (defScope s_law_most) .none kV18 dc18 pm18 an18 cd18 ct18), sl18⟩)
    (c18 : PySem.W.codeIn K cd18 "_law_most" = true)
    (k18 : PySem.W.keepIn K (.ref f18) = true)
    (a19 : PySem.W.nsIn K mainGlobals "_law_told" = some (some (.ref f19)))
    (l19 : K.lookup f19 = some ⟨oc19, od19, .func (PySem.W.fnOf "_law_told" "_law_told" (defArgs s_law_told) (defBody s_law_told) (defScope s_law_told) .none kV19 dc19 pm19 an19 cd19 ct19), sl19⟩)
    (c19 : PySem.W.codeIn K cd19 "_law_told" = true)
    (k19 : PySem.W.keepIn K (.ref f19) = true)
    (a20 : PySem.W.nsIn K mainGlobals "_law_is_good" = some (some (.ref f20)))
    (l20 : K.lookup f20 = some ⟨oc20, od20, .func (PySem.W.fnOf "_law_is_good" "_law_is_good" (defArgs s_law_is_good) (defBody s_law_is_good) (defScope s_law_is_good) .none kV20 dc20 pm20 an20 cd20 ct20), sl20⟩)
    (c20 : PySem.W.codeIn K cd20 "_law_is_good" = true)
    (k20 : PySem.W.keepIn K (.ref f20) = true)
    (a21 : PySem.W.nsIn K mainGlobals "_law_right" = some (some (.ref f21)))
    (l21 : K.lookup f21 = some ⟨oc21, od21, .func (PySem.W.fnOf "_law_right" "_law_right" (defArgs s_law_right) (defBody s_law_right) (defScope s_law_right) .none kV21 dc21 pm21 an21 cd21 ct21), sl21⟩)
    (c21 : PySem.W.codeIn K cd21 "_law_right" = true)
    (k21 : PySem.W.keepIn K (.ref f21) = true)
    (a22 : PySem.W.nsIn K mainGlobals "_law_odd" = some (some (.ref f22)))
    (l22 : K.lookup f22 = some ⟨oc22, od22, .func (PySem.W.fnOf "_law_odd" "_law_odd" (defArgs s_law_odd) (defBody s_law_odd) (defScope s_law_odd) .none kV22 dc22 pm22 an22 cd22 ct22), sl22⟩)
    (c22 : PySem.W.codeIn K cd22 "_law_odd" = true)
    (k22 : PySem.W.keepIn K (.ref f22) = true)
    (a23 : PySem.W.nsIn K mainGlobals "law" = some (some (.ref f23)))
    (l23 : K.lookup f23 = some ⟨oc23, od23, .func (PySem.W.fnOf "law" "law" (defArgs s_law) (defBody s_law) (defScope s_law) .none kV23 dc23 pm23 an23 cd23 ct23), sl23⟩)
    (c23 : PySem.W.codeIn K cd23 "law" = true)
    (k23 : PySem.W.keepIn K (.ref f23) = true)
    (z_int : PySem.W.nsIn K mainGlobals "int" = some none)
    (z_bool : PySem.W.nsIn K mainGlobals "bool" = some none)
    (z_str : PySem.W.nsIn K mainGlobals "str" = some none)
    (z_list : PySem.W.nsIn K mainGlobals "list" = some none)
    (z_tuple : PySem.W.nsIn K mainGlobals "tuple" = some none)
    (z_len : PySem.W.nsIn K mainGlobals "len" = some none)
    (z_sum : PySem.W.nsIn K mainGlobals "sum" = some none)
    (z_abs : PySem.W.nsIn K mainGlobals "abs" = some none)
    (z_all : PySem.W.nsIn K mainGlobals "all" = some none)
    (z_range : PySem.W.nsIn K mainGlobals "range" = some none)
    (z_isinstance : PySem.W.nsIn K mainGlobals "isinstance" = some none)
    (z_dict : PySem.W.nsIn K mainGlobals "dict" = some none)
    (z_max : PySem.W.nsIn K mainGlobals "max" = some none)
    (z_min : PySem.W.nsIn K mainGlobals "min" = some none)
    (c_HIGHEST : PySem.W.nsIn K mainGlobals "HIGHEST" = some (some (.int 64 t_HIGHEST)))
    (c_FEWEST_KINDS : PySem.W.nsIn K mainGlobals "FEWEST_KINDS" = some (some (.int 2 t_FEWEST_KINDS)))
    (c_MOST_KINDS : PySem.W.nsIn K mainGlobals "MOST_KINDS" = some (some (.int 16 t_MOST_KINDS)))
    (c_comb : PySem.W.nsIn K mainGlobals "comb" = some (some (.builtin "math.comb")))
    (aCT : PySem.W.nsIn K mainGlobals "TalkError" = some (some (.ref CT)))
    (aCInvalidNumber : PySem.W.nsIn K mainGlobals "InvalidNumber" = some (some (.ref CInvalidNumber)))
    (xLInvalidNumber : K.lookup CInvalidNumber = some (excClassObj nmInvalidNumber qInvalidNumber CInvalidNumber NInvalidNumber bsInvalidNumber [.ref CT, .type "ValueError", .type "Exception", .type "BaseException", .type "object"] true snInvalidNumber subInvalidNumber abInvalidNumber colInvalidNumber ddInvalidNumber m0InvalidNumber m1InvalidNumber m2InvalidNumber m3InvalidNumber m5InvalidNumber "ValueError.__new__"))
    (saInvalidNumber : PySem.W.findIn K (.ref CInvalidNumber) "__setattr__" = some (some (.builtin "object.__setattr__")))
    (gaInvalidNumber : PySem.W.findIn K (.ref CInvalidNumber) "__getattribute__" = some (some (.builtin "BaseException.__getattribute__")))
    (ggInvalidNumber : PySem.W.findIn K (.ref CInvalidNumber) "__getattr__" = some none)
    (nbInvalidNumber : PySem.W.findIn K (.ref CInvalidNumber) "given" = some none)
    (iCInvalidNumber : PySem.W.findIn K (.ref CInvalidNumber) "__init__" = some (some (.ref fIInvalidNumber)))
    (tIInvalidNumber : PySem.W.typeIn K (.ref fIInvalidNumber) = some (.type "function"))
    (lIInvalidNumber : K.lookup fIInvalidNumber = some ⟨ocInvalidNumber, odInvalidNumber, .func (PySem.W.fnOf "__init__" "InvalidNumber.__init__" (defArgs s_init_InvalidNumber) (defBody s_init_InvalidNumber) (defScope s_init_InvalidNumber) .none kVInvalidNumber dcInvalidNumber pmInvalidNumber anInvalidNumber cdInvalidNumber ctInvalidNumber), slInvalidNumber⟩)
    (cIInvalidNumber : PySem.W.codeIn K cdInvalidNumber "InvalidNumber.__init__" = true)
    (kIInvalidNumber : PySem.W.keepIn K (.ref fIInvalidNumber) = true)
    (kCInvalidNumber : PySem.W.keepIn K (.ref CInvalidNumber) = true)
    (eCInvalidNumber : PySem.W.subIn K (.ref CInvalidNumber) (.type "BaseException") = some true)
    (tCInvalidNumber : PySem.W.typeIn K (.ref CInvalidNumber) = some (.type "type"))
    (hCInvalidNumber : PySem.W.hasDictIn K CInvalidNumber = true)
    (iSInvalidNumber : PySem.W.isClsIn K CInvalidNumber = true)
    (aCInvalidMany : PySem.W.nsIn K mainGlobals "InvalidMany" = some (some (.ref CInvalidMany)))
    (xLInvalidMany : K.lookup CInvalidMany = some (excClassObj nmInvalidMany qInvalidMany CInvalidMany NInvalidMany bsInvalidMany [.ref CT, .type "ValueError", .type "Exception", .type "BaseException", .type "object"] true snInvalidMany subInvalidMany abInvalidMany colInvalidMany ddInvalidMany m0InvalidMany m1InvalidMany m2InvalidMany m3InvalidMany m5InvalidMany "ValueError.__new__"))
    (saInvalidMany : PySem.W.findIn K (.ref CInvalidMany) "__setattr__" = some (some (.builtin "object.__setattr__")))
    (gaInvalidMany : PySem.W.findIn K (.ref CInvalidMany) "__getattribute__" = some (some (.builtin "BaseException.__getattribute__")))
    (ggInvalidMany : PySem.W.findIn K (.ref CInvalidMany) "__getattr__" = some none)
    (nbInvalidMany : PySem.W.findIn K (.ref CInvalidMany) "given" = some none)
    (iCInvalidMany : PySem.W.findIn K (.ref CInvalidMany) "__init__" = some (some (.ref fIInvalidMany)))
    (tIInvalidMany : PySem.W.typeIn K (.ref fIInvalidMany) = some (.type "function"))
    (lIInvalidMany : K.lookup fIInvalidMany = some ⟨ocInvalidMany, odInvalidMany, .func (PySem.W.fnOf "__init__" "InvalidMany.__init__" (defArgs s_init_InvalidMany) (defBody s_init_InvalidMany) (defScope s_init_InvalidMany) .none kVInvalidMany dcInvalidMany pmInvalidMany anInvalidMany cdInvalidMany ctInvalidMany), slInvalidMany⟩)
    (cIInvalidMany : PySem.W.codeIn K cdInvalidMany "InvalidMany.__init__" = true)
    (kIInvalidMany : PySem.W.keepIn K (.ref fIInvalidMany) = true)
    (kCInvalidMany : PySem.W.keepIn K (.ref CInvalidMany) = true)
    (eCInvalidMany : PySem.W.subIn K (.ref CInvalidMany) (.type "BaseException") = some true)
    (tCInvalidMany : PySem.W.typeIn K (.ref CInvalidMany) = some (.type "type"))
    (hCInvalidMany : PySem.W.hasDictIn K CInvalidMany = true)
    (iSInvalidMany : PySem.W.isClsIn K CInvalidMany = true)
    (aCInvalidParts : PySem.W.nsIn K mainGlobals "InvalidParts" = some (some (.ref CInvalidParts)))
    (xLInvalidParts : K.lookup CInvalidParts = some (excClassObj nmInvalidParts qInvalidParts CInvalidParts NInvalidParts bsInvalidParts [.ref CT, .type "ValueError", .type "Exception", .type "BaseException", .type "object"] true snInvalidParts subInvalidParts abInvalidParts colInvalidParts ddInvalidParts m0InvalidParts m1InvalidParts m2InvalidParts m3InvalidParts m5InvalidParts "ValueError.__new__"))
    (saInvalidParts : PySem.W.findIn K (.ref CInvalidParts) "__setattr__" = some (some (.builtin "object.__setattr__")))
    (gaInvalidParts : PySem.W.findIn K (.ref CInvalidParts) "__getattribute__" = some (some (.builtin "BaseException.__getattribute__")))
    (ggInvalidParts : PySem.W.findIn K (.ref CInvalidParts) "__getattr__" = some none)
    (nbInvalidParts : PySem.W.findIn K (.ref CInvalidParts) "given" = some none)
    (iCInvalidParts : PySem.W.findIn K (.ref CInvalidParts) "__init__" = some (some (.ref fIInvalidParts)))
    (tIInvalidParts : PySem.W.typeIn K (.ref fIInvalidParts) = some (.type "function"))
    (lIInvalidParts : K.lookup fIInvalidParts = some ⟨ocInvalidParts, odInvalidParts, .func (PySem.W.fnOf "__init__" "InvalidParts.__init__" (defArgs s_init_InvalidParts) (defBody s_init_InvalidParts) (defScope s_init_InvalidParts) .none kVInvalidParts dcInvalidParts pmInvalidParts anInvalidParts cdInvalidParts ctInvalidParts), slInvalidParts⟩)
    (cIInvalidParts : PySem.W.codeIn K cdInvalidParts "InvalidParts.__init__" = true)
    (kIInvalidParts : PySem.W.keepIn K (.ref fIInvalidParts) = true)
    (kCInvalidParts : PySem.W.keepIn K (.ref CInvalidParts) = true)
    (eCInvalidParts : PySem.W.subIn K (.ref CInvalidParts) (.type "BaseException") = some true)
    (tCInvalidParts : PySem.W.typeIn K (.ref CInvalidParts) = some (.type "type"))
    (hCInvalidParts : PySem.W.hasDictIn K CInvalidParts = true)
    (iSInvalidParts : PySem.W.isClsIn K CInvalidParts = true)
    (aCInvalidOwn : PySem.W.nsIn K mainGlobals "InvalidOwn" = some (some (.ref CInvalidOwn)))
    (xLInvalidOwn : K.lookup CInvalidOwn = some (excClassObj nmInvalidOwn qInvalidOwn CInvalidOwn NInvalidOwn bsInvalidOwn [.ref CT, .type "ValueError", .type "Exception", .type "BaseException", .type "object"] true snInvalidOwn subInvalidOwn abInvalidOwn colInvalidOwn ddInvalidOwn m0InvalidOwn m1InvalidOwn m2InvalidOwn m3InvalidOwn m5InvalidOwn "ValueError.__new__"))
    (saInvalidOwn : PySem.W.findIn K (.ref CInvalidOwn) "__setattr__" = some (some (.builtin "object.__setattr__")))
    (gaInvalidOwn : PySem.W.findIn K (.ref CInvalidOwn) "__getattribute__" = some (some (.builtin "BaseException.__getattribute__")))
    (ggInvalidOwn : PySem.W.findIn K (.ref CInvalidOwn) "__getattr__" = some none)
    (nbInvalidOwn : PySem.W.findIn K (.ref CInvalidOwn) "given" = some none)
    (iCInvalidOwn : PySem.W.findIn K (.ref CInvalidOwn) "__init__" = some (some (.ref fIInvalidOwn)))
    (tIInvalidOwn : PySem.W.typeIn K (.ref fIInvalidOwn) = some (.type "function"))
    (lIInvalidOwn : K.lookup fIInvalidOwn = some ⟨ocInvalidOwn, odInvalidOwn, .func (PySem.W.fnOf "__init__" "InvalidOwn.__init__" (defArgs s_init_InvalidOwn) (defBody s_init_InvalidOwn) (defScope s_init_InvalidOwn) .none kVInvalidOwn dcInvalidOwn pmInvalidOwn anInvalidOwn cdInvalidOwn ctInvalidOwn), slInvalidOwn⟩)
    (cIInvalidOwn : PySem.W.codeIn K cdInvalidOwn "InvalidOwn.__init__" = true)
    (kIInvalidOwn : PySem.W.keepIn K (.ref fIInvalidOwn) = true)
    (kCInvalidOwn : PySem.W.keepIn K (.ref CInvalidOwn) = true)
    (eCInvalidOwn : PySem.W.subIn K (.ref CInvalidOwn) (.type "BaseException") = some true)
    (tCInvalidOwn : PySem.W.typeIn K (.ref CInvalidOwn) = some (.type "type"))
    (hCInvalidOwn : PySem.W.hasDictIn K CInvalidOwn = true)
    (iSInvalidOwn : PySem.W.isClsIn K CInvalidOwn = true)
    (aCInvalidOther : PySem.W.nsIn K mainGlobals "InvalidOther" = some (some (.ref CInvalidOther)))
    (xLInvalidOther : K.lookup CInvalidOther = some (excClassObj nmInvalidOther qInvalidOther CInvalidOther NInvalidOther bsInvalidOther [.ref CT, .type "ValueError", .type "Exception", .type "BaseException", .type "object"] true snInvalidOther subInvalidOther abInvalidOther colInvalidOther ddInvalidOther m0InvalidOther m1InvalidOther m2InvalidOther m3InvalidOther m5InvalidOther "ValueError.__new__"))
    (saInvalidOther : PySem.W.findIn K (.ref CInvalidOther) "__setattr__" = some (some (.builtin "object.__setattr__")))
    (gaInvalidOther : PySem.W.findIn K (.ref CInvalidOther) "__getattribute__" = some (some (.builtin "BaseException.__getattribute__")))
    (ggInvalidOther : PySem.W.findIn K (.ref CInvalidOther) "__getattr__" = some none)
    (nbInvalidOther : PySem.W.findIn K (.ref CInvalidOther) "given" = some none)
    (iCInvalidOther : PySem.W.findIn K (.ref CInvalidOther) "__init__" = some (some (.ref fIInvalidOther)))
    (tIInvalidOther : PySem.W.typeIn K (.ref fIInvalidOther) = some (.type "function"))
    (lIInvalidOther : K.lookup fIInvalidOther = some ⟨ocInvalidOther, odInvalidOther, .func (PySem.W.fnOf "__init__" "InvalidOther.__init__" (defArgs s_init_InvalidOther) (defBody s_init_InvalidOther) (defScope s_init_InvalidOther) .none kVInvalidOther dcInvalidOther pmInvalidOther anInvalidOther cdInvalidOther ctInvalidOther), slInvalidOther⟩)
    (cIInvalidOther : PySem.W.codeIn K cdInvalidOther "InvalidOther.__init__" = true)
    (kIInvalidOther : PySem.W.keepIn K (.ref fIInvalidOther) = true)
    (kCInvalidOther : PySem.W.keepIn K (.ref CInvalidOther) = true)
    (eCInvalidOther : PySem.W.subIn K (.ref CInvalidOther) (.type "BaseException") = some true)
    (tCInvalidOther : PySem.W.typeIn K (.ref CInvalidOther) = some (.type "type"))
    (hCInvalidOther : PySem.W.hasDictIn K CInvalidOther = true)
    (iSInvalidOther : PySem.W.isClsIn K CInvalidOther = true)
    (eOO : PySem.W.subIn K (.ref CInvalidOwn) (.ref CInvalidOwn) = some true)
    (eTO : PySem.W.subIn K (.ref CInvalidOther) (.ref CInvalidOwn) = some false)
    (eTT : PySem.W.subIn K (.ref CInvalidOther) (.ref CInvalidOther) = some true) :
    ∃ fd : FuncData, (∀ (s : Shared) (v : Value), BindsTo s fd ⟨[v], []⟩ [("script", v)]) ∧ ∀ base : Heap, K.In base → base.Ns mainGlobals mg → FnOk l.prog w K mg base CX0 11 fa fd ["script"] (spLaw K) := by
  have e := hfa.symm.trans (PySem.W.mg_of X G a23)
  cases e
  let T : TK K mg := {
    is_integer := mkDef X G a1 l1 c1 k1 (fun _ _ _ _ _ _ us hl => match us, hl with | [_], _ => rfl)
    is_between := mkDef X G a2 l2 c2 k2 (fun _ _ _ _ _ _ us hl => match us, hl with | [_, _, _], _ => rfl)
    is_from := mkDef X G a3 l3 c3 k3 (fun _ _ _ _ _ _ us hl => match us, hl with | [_, _], _ => rfl)
    is_list := mkDef X G a4 l4 c4 k4 (fun _ _ _ _ _ _ us hl => match us, hl with | [_], _ => rfl)
    are_from := mkDef X G a5 l5 c5 k5 (fun _ _ _ _ _ _ us hl => match us, hl with | [_, _], _ => rfl)
    arrangements := mkDef X G a6 l6 c6 k6 (fun _ _ _ _ _ _ us hl => match us, hl with | [_], _ => rfl)
    even_parts := mkDef X G a7 l7 c7 k7 (fun _ _ _ _ _ _ us hl => match us, hl with | [_, _], _ => rfl)
    check_number := mkDef X G a8 l8 c8 k8 (fun _ _ _ _ _ _ us hl => match us, hl with | [_], _ => rfl)
    check_many := mkDef X G a9 l9 c9 k9 (fun _ _ _ _ _ _ us hl => match us, hl with | [_], _ => rfl)
    greatest_by := mkDef X G a10 l10 c10 k10 (fun _ _ _ _ _ _ us hl => match us, hl with | [_, _], _ => rfl)
    both := mkDef X G a11 l11 c11 k11 (fun _ _ _ _ _ _ us hl => match us, hl with | [_, _], _ => rfl)
    both_known := mkDef X G a12 l12 c12 k12 (fun _ _ _ _ _ _ us hl => match us, hl with | [_, _], _ => rfl)
    check_kinds := mkDef X G a13 l13 c13 k13 (fun _ _ _ _ _ _ us hl => match us, hl with | [_, _, _], _ => rfl)
    law_cell := mkDef X G a14 l14 c14 k14 (fun _ _ _ _ _ _ us hl => match us, hl with | [_, _], _ => rfl)
    law_box := mkDef X G a15 l15 c15 k15 (fun _ _ _ _ _ _ us hl => match us, hl with | [_], _ => rfl)
    law_take := mkDef X G a16 l16 c16 k16 (fun _ _ _ _ _ _ us hl => match us, hl with | [_, _], _ => rfl)
    law_same := mkDef X G a17 l17 c17 k17 (fun _ _ _ _ _ _ us hl => match us, hl with | [_, _], _ => rfl)
    law_most := mkDef X G a18 l18 c18 k18 (fun _ _ _ _ _ _ us hl => match us, hl with | [], _ => rfl)
    law_told := mkDef X G a19 l19 c19 k19 (fun _ _ _ _ _ _ us hl => match us, hl with | [_, _, _, _], _ => rfl)
    law_is_good := mkDef X G a20 l20 c20 k20 (fun _ _ _ _ _ _ us hl => match us, hl with | [_], _ => rfl)
    law_right := mkDef X G a21 l21 c21 k21 (fun _ _ _ _ _ _ us hl => match us, hl with | [_, _, _, _, _], _ => rfl)
    law_odd := mkDef X G a22 l22 c22 k22 (fun _ _ _ _ _ _ us hl => match us, hl with | [_, _], _ => rfl)
    law := mkDef X G a23 l23 c23 k23 (fun _ _ _ _ _ _ us hl => match us, hl with | [_], _ => rfl)
    z_int := PySem.W.mg_none_of X G z_int
    z_bool := PySem.W.mg_none_of X G z_bool
    z_str := PySem.W.mg_none_of X G z_str
    z_list := PySem.W.mg_none_of X G z_list
    z_tuple := PySem.W.mg_none_of X G z_tuple
    z_len := PySem.W.mg_none_of X G z_len
    z_sum := PySem.W.mg_none_of X G z_sum
    z_abs := PySem.W.mg_none_of X G z_abs
    z_all := PySem.W.mg_none_of X G z_all
    z_range := PySem.W.mg_none_of X G z_range
    z_isinstance := PySem.W.mg_none_of X G z_isinstance
    z_dict := PySem.W.mg_none_of X G z_dict
    z_max := PySem.W.mg_none_of X G z_max
    z_min := PySem.W.mg_none_of X G z_min
    t_HIGHEST := t_HIGHEST
    c_HIGHEST := PySem.W.mg_of X G c_HIGHEST
    t_FEWEST_KINDS := t_FEWEST_KINDS
    c_FEWEST_KINDS := PySem.W.mg_of X G c_FEWEST_KINDS
    t_MOST_KINDS := t_MOST_KINDS
    c_MOST_KINDS := PySem.W.mg_of X G c_MOST_KINDS
    c_comb := PySem.W.mg_of X G c_comb
    TalkError_C := CT
    TalkError_gC := PySem.W.mg_of X G aCT
    InvalidNumber := ⟨CInvalidNumber, fIInvalidNumber, _, fun_mk (st := s_init_InvalidNumber) lIInvalidNumber cIInvalidNumber kIInvalidNumber, (fun_mk (st := s_init_InvalidNumber) lIInvalidNumber cIInvalidNumber kIInvalidNumber).binds (ps := ["self", "given"]) fun _ _ _ _ _ _ us hl => match us, hl with | [_, _], _ => rfl, ⟨⟨_, _, _, _, _, _, _, _, _, _, _, _, _, _, _, xLInvalidNumber, rfl⟩, saInvalidNumber, eCInvalidNumber, tCInvalidNumber, kCInvalidNumber⟩, iCInvalidNumber, tIInvalidNumber, PySem.W.mg_of X G aCInvalidNumber, nbInvalidNumber, ⟨gaInvalidNumber, ggInvalidNumber, eCInvalidNumber, hCInvalidNumber⟩⟩
    InvalidMany := ⟨CInvalidMany, fIInvalidMany, _, fun_mk (st := s_init_InvalidMany) lIInvalidMany cIInvalidMany kIInvalidMany, (fun_mk (st := s_init_InvalidMany) lIInvalidMany cIInvalidMany kIInvalidMany).binds (ps := ["self", "given"]) fun _ _ _ _ _ _ us hl => match us, hl with | [_, _], _ => rfl, ⟨⟨_, _, _, _, _, _, _, _, _, _, _, _, _, _, _, xLInvalidMany, rfl⟩, saInvalidMany, eCInvalidMany, tCInvalidMany, kCInvalidMany⟩, iCInvalidMany, tIInvalidMany, PySem.W.mg_of X G aCInvalidMany, nbInvalidMany, ⟨gaInvalidMany, ggInvalidMany, eCInvalidMany, hCInvalidMany⟩⟩
    InvalidParts := ⟨CInvalidParts, fIInvalidParts, _, fun_mk (st := s_init_InvalidParts) lIInvalidParts cIInvalidParts kIInvalidParts, (fun_mk (st := s_init_InvalidParts) lIInvalidParts cIInvalidParts kIInvalidParts).binds (ps := ["self", "given"]) fun _ _ _ _ _ _ us hl => match us, hl with | [_, _], _ => rfl, ⟨⟨_, _, _, _, _, _, _, _, _, _, _, _, _, _, _, xLInvalidParts, rfl⟩, saInvalidParts, eCInvalidParts, tCInvalidParts, kCInvalidParts⟩, iCInvalidParts, tIInvalidParts, PySem.W.mg_of X G aCInvalidParts, nbInvalidParts, ⟨gaInvalidParts, ggInvalidParts, eCInvalidParts, hCInvalidParts⟩⟩
    InvalidOwn := ⟨CInvalidOwn, fIInvalidOwn, _, fun_mk (st := s_init_InvalidOwn) lIInvalidOwn cIInvalidOwn kIInvalidOwn, (fun_mk (st := s_init_InvalidOwn) lIInvalidOwn cIInvalidOwn kIInvalidOwn).binds (ps := ["self", "given"]) fun _ _ _ _ _ _ us hl => match us, hl with | [_, _], _ => rfl, ⟨⟨_, _, _, _, _, _, _, _, _, _, _, _, _, _, _, xLInvalidOwn, rfl⟩, saInvalidOwn, eCInvalidOwn, tCInvalidOwn, kCInvalidOwn⟩, iCInvalidOwn, tIInvalidOwn, PySem.W.mg_of X G aCInvalidOwn, nbInvalidOwn, ⟨gaInvalidOwn, ggInvalidOwn, eCInvalidOwn, hCInvalidOwn⟩⟩
    InvalidOther := ⟨CInvalidOther, fIInvalidOther, _, fun_mk (st := s_init_InvalidOther) lIInvalidOther cIInvalidOther kIInvalidOther, (fun_mk (st := s_init_InvalidOther) lIInvalidOther cIInvalidOther kIInvalidOther).binds (ps := ["self", "given"]) fun _ _ _ _ _ _ us hl => match us, hl with | [_, _], _ => rfl, ⟨⟨_, _, _, _, _, _, _, _, _, _, _, _, _, _, _, xLInvalidOther, rfl⟩, saInvalidOther, eCInvalidOther, tCInvalidOther, kCInvalidOther⟩, iCInvalidOther, tIInvalidOther, PySem.W.mg_of X G aCInvalidOther, nbInvalidOther, ⟨gaInvalidOther, ggInvalidOther, eCInvalidOther, hCInvalidOther⟩⟩
    eOO := exm_of eCInvalidOwn iSInvalidOwn tCInvalidOwn eOO
    eTO := exm_of eCInvalidOwn iSInvalidOwn tCInvalidOwn eTO
    eTT := exm_of eCInvalidOther iSInvalidOther tCInvalidOther eTT
    kb_both_other_own := kb21 (fun_mk (st := s_both) l11 c11 k11) fun _ _ _ _ _ _ _ _ => rfl
    kb_both_known_other_own := kb21 (fun_mk (st := s_both_known) l12 c12 k12) fun _ _ _ _ _ _ _ _ => rfl }
  exact ⟨PySem.W.fnOf "law" "law" (defArgs s_law) (defBody s_law) (defScope s_law) .none kV23 dc23 pm23 an23 cd23 ct23, fun s v => .of_eq rfl, fun base _ _ => ok_law T⟩
theorem walk {l : PySem.W.OpenLaw} {q : Program} {loose : List Str} {XP : (Str → Option Value) → Heap → Prop} {YP : World → Heap → Prop} {d : DefRec} {K : Params → PySem.W.Frag} (hn : l.most = some 63) (hdf : d.params.defaults = [])
    (hY : ∀ (w : World) (h : Heap), YP w h → (K w.params).In h)
    (F : ∀ (w : World) (mg : Str → Option Value) (fa : Addr) (h : Heap), (K w.params).In h → h.Ns mainGlobals mg → mg d.name = some (.ref fa) →
      ∃ fd : FuncData, (∀ (s : Shared) (u : Value), BindsTo s fd ⟨[u], []⟩ [("script", u)]) ∧ ∀ base : Heap, (K w.params).In base → base.Ns mainGlobals mg → FnOk l.prog w (K w.params) mg base CX0 11 fa fd ["script"] (spLaw (K w.params))) :
    PySem.W.WalkO q loose XP YP l.row.toRowW d [] (fun f vs => PySem.call f vs) :=
  L2.walk_of (n := 63) (k := 11) (x := "script") (CX := fun _ => CX0) (sp := fun w => spLaw (K w.params)) hn (by decide) hdf ⟨rfl, by decide, by decide⟩ hY F
    (fun _ _ a ns hl _ hS => ⟨a, ns, rfl, hS, hl, fun _ => rfl⟩) fun _ _ _ _ _ z => z
end L2.U
open PySem PySem.W PyProof.Rows
set_option maxRecDepth 100000 in
set_option maxHeartbeats 0 in
theorem PySem.Challenge.cw_upforgood_k50_numbers_told_at_once_holds : PySem.Challenge.rw_upforgood_k50_numbers_told_at_once.Holds := by
  w_on; o_law; k_head; (case hw => w_witness2)
  k_fill
  refine L2.U.walk (l := PySem.Challenge.rw_upforgood_k50_numbers_told_at_once) rfl rfl (fun w h Y => PySem.W.kIn_of Y) ?F
  case F =>
    intro w mg fa h KX G hmg
    refine' L2.U.all_mk KX G hmg ?a1 ?l1 ?c1 ?k1 ?a2 ?l2 ?c2 ?k2 ?a3 ?l3 ?c3 ?k3 ?a4 ?l4 ?c4 ?k4 ?a5 ?l5 ?c5 ?k5 ?a6 ?l6 ?c6 ?k6 ?a7 ?l7 ?c7 ?k7 ?a8 ?l8 ?c8 ?k8 ?a9 ?l9 ?c9 ?k9 ?a10 ?l10 ?c10 ?k10 ?a11 ?l11 ?c11 ?k11 ?a12 ?l12 ?c12 ?k12 ?a13 ?l13 ?c13 ?k13 ?a14 ?l14 ?c14 ?k14 ?a15 ?l15 ?c15 ?k15 ?a16 ?l16 ?c16 ?k16 ?a17 ?l17 ?c17 ?k17 ?a18 ?l18 ?c18 ?k18 ?a19 ?l19 ?c19 ?k19 ?a20 ?l20 ?c20 ?k20 ?a21 ?l21 ?c21 ?k21 ?a22 ?l22 ?c22 ?k22 ?a23 ?l23 ?c23 ?k23 ?z_int ?z_bool ?z_str ?z_list ?z_tuple ?z_len ?z_sum ?z_abs ?z_all ?z_range ?z_isinstance ?z_dict ?z_max ?z_min ?c_HIGHEST ?c_FEWEST_KINDS ?c_MOST_KINDS ?c_comb ?aCT ?aCInvalidNumber ?xLInvalidNumber ?saInvalidNumber ?gaInvalidNumber ?ggInvalidNumber ?nbInvalidNumber ?iCInvalidNumber ?tIInvalidNumber ?lIInvalidNumber ?cIInvalidNumber ?kIInvalidNumber ?kCInvalidNumber ?eCInvalidNumber ?tCInvalidNumber ?hCInvalidNumber ?iSInvalidNumber ?aCInvalidMany ?xLInvalidMany ?saInvalidMany ?gaInvalidMany ?ggInvalidMany ?nbInvalidMany ?iCInvalidMany ?tIInvalidMany ?lIInvalidMany ?cIInvalidMany ?kIInvalidMany ?kCInvalidMany ?eCInvalidMany ?tCInvalidMany ?hCInvalidMany ?iSInvalidMany ?aCInvalidParts ?xLInvalidParts ?saInvalidParts ?gaInvalidParts ?ggInvalidParts ?nbInvalidParts ?iCInvalidParts ?tIInvalidParts ?lIInvalidParts ?cIInvalidParts ?kIInvalidParts ?kCInvalidParts ?eCInvalidParts ?tCInvalidParts ?hCInvalidParts ?iSInvalidParts ?aCInvalidOwn ?xLInvalidOwn ?saInvalidOwn ?gaInvalidOwn ?ggInvalidOwn ?nbInvalidOwn ?iCInvalidOwn ?tIInvalidOwn ?lIInvalidOwn ?cIInvalidOwn ?kIInvalidOwn ?kCInvalidOwn ?eCInvalidOwn ?tCInvalidOwn ?hCInvalidOwn ?iSInvalidOwn ?aCInvalidOther ?xLInvalidOther ?saInvalidOther ?gaInvalidOther ?ggInvalidOther ?nbInvalidOther ?iCInvalidOther ?tIInvalidOther ?lIInvalidOther ?cIInvalidOther ?kIInvalidOther ?kCInvalidOther ?eCInvalidOther ?tCInvalidOther ?hCInvalidOther ?iSInvalidOther ?eOO ?eTO ?eTT
    (case a1 => k_is)
    (case l1 => k_is)
    (case c1 => k_is)
    (case k1 => k_is)
    (case a2 => k_is)
    (case l2 => k_is)
    (case c2 => k_is)
    (case k2 => k_is)
    (case a3 => k_is)
    (case l3 => k_is)
    (case c3 => k_is)
    (case k3 => k_is)
    (case a4 => k_is)
    (case l4 => k_is)
    (case c4 => k_is)
    (case k4 => k_is)
    (case a5 => k_is)
    (case l5 => k_is)
    (case c5 => k_is)
    (case k5 => k_is)
    (case a6 => k_is)
    (case l6 => k_is)
    (case c6 => k_is)
    (case k6 => k_is)
    (case a7 => k_is)
    (case l7 => k_is)
    (case c7 => k_is)
    (case k7 => k_is)
    (case a8 => k_is)
    (case l8 => k_is)
    (case c8 => k_is)
    (case k8 => k_is)
    (case a9 => k_is)
    (case l9 => k_is)
    (case c9 => k_is)
    (case k9 => k_is)
    (case a10 => k_is)
    (case l10 => k_is)
    (case c10 => k_is)
    (case k10 => k_is)
    (case a11 => k_is)
    (case l11 => k_is)
    (case c11 => k_is)
    (case k11 => k_is)
    (case a12 => k_is)
    (case l12 => k_is)
    (case c12 => k_is)
    (case k12 => k_is)
    (case a13 => k_is)
    (case l13 => k_is)
    (case c13 => k_is)
    (case k13 => k_is)
    (case a14 => k_is)
    (case l14 => k_is)
    (case c14 => k_is)
    (case k14 => k_is)
    (case a15 => k_is)
    (case l15 => k_is)
    (case c15 => k_is)
    (case k15 => k_is)
    (case a16 => k_is)
    (case l16 => k_is)
    (case c16 => k_is)
    (case k16 => k_is)
    (case a17 => k_is)
    (case l17 => k_is)
    (case c17 => k_is)
    (case k17 => k_is)
    (case a18 => k_is)
    (case l18 => k_is)
    (case c18 => k_is)
    (case k18 => k_is)
    (case a19 => k_is)
    (case l19 => k_is)
    (case c19 => k_is)
    (case k19 => k_is)
    (case a20 => k_is)
    (case l20 => k_is)
    (case c20 => k_is)
    (case k20 => k_is)
    (case a21 => k_is)
    (case l21 => k_is)
    (case c21 => k_is)
    (case k21 => k_is)
    (case a22 => k_is)
    (case l22 => k_is)
    (case c22 => k_is)
    (case k22 => k_is)
    (case a23 => k_is)
    (case l23 => k_is)
    (case c23 => k_is)
    (case k23 => k_is)
    (case z_int => k_is)
    (case z_bool => k_is)
    (case z_str => k_is)
    (case z_list => k_is)
    (case z_tuple => k_is)
    (case z_len => k_is)
    (case z_sum => k_is)
    (case z_abs => k_is)
    (case z_all => k_is)
    (case z_range => k_is)
    (case z_isinstance => k_is)
    (case z_dict => k_is)
    (case z_max => k_is)
    (case z_min => k_is)
    (case c_HIGHEST => k_is)
    (case c_FEWEST_KINDS => k_is)
    (case c_MOST_KINDS => k_is)
    (case c_comb => k_is)
    (case aCT => k_is)
    (case aCInvalidNumber => k_is)
    (case xLInvalidNumber => k_is)
    (case saInvalidNumber => k_is)
    (case gaInvalidNumber => k_is)
    (case ggInvalidNumber => k_is)
    (case nbInvalidNumber => k_is)
    (case iCInvalidNumber => k_is)
    (case tIInvalidNumber => k_is)
    (case lIInvalidNumber => k_is)
    (case cIInvalidNumber => k_is)
    (case kIInvalidNumber => k_is)
    (case kCInvalidNumber => k_is)
    (case eCInvalidNumber => k_is)
    (case tCInvalidNumber => k_is)
    (case hCInvalidNumber => k_is)
    (case iSInvalidNumber => k_is)
    (case aCInvalidMany => k_is)
    (case xLInvalidMany => k_is)
    (case saInvalidMany => k_is)
    (case gaInvalidMany => k_is)
    (case ggInvalidMany => k_is)
    (case nbInvalidMany => k_is)
    (case iCInvalidMany => k_is)
    (case tIInvalidMany => k_is)
    (case lIInvalidMany => k_is)
    (case cIInvalidMany => k_is)
    (case kIInvalidMany => k_is)
    (case kCInvalidMany => k_is)
    (case eCInvalidMany => k_is)
    (case tCInvalidMany => k_is)
    (case hCInvalidMany => k_is)
    (case iSInvalidMany => k_is)
    (case aCInvalidParts => k_is)
    (case xLInvalidParts => k_is)
    (case saInvalidParts => k_is)
    (case gaInvalidParts => k_is)
    (case ggInvalidParts => k_is)
    (case nbInvalidParts => k_is)
    (case iCInvalidParts => k_is)
    (case tIInvalidParts => k_is)
    (case lIInvalidParts => k_is)
    (case cIInvalidParts => k_is)
    (case kIInvalidParts => k_is)
    (case kCInvalidParts => k_is)
    (case eCInvalidParts => k_is)
    (case tCInvalidParts => k_is)
    (case hCInvalidParts => k_is)
    (case iSInvalidParts => k_is)
    (case aCInvalidOwn => k_is)
    (case xLInvalidOwn => k_is)
    (case saInvalidOwn => k_is)
    (case gaInvalidOwn => k_is)
    (case ggInvalidOwn => k_is)
    (case nbInvalidOwn => k_is)
    (case iCInvalidOwn => k_is)
    (case tIInvalidOwn => k_is)
    (case lIInvalidOwn => k_is)
    (case cIInvalidOwn => k_is)
    (case kIInvalidOwn => k_is)
    (case kCInvalidOwn => k_is)
    (case eCInvalidOwn => k_is)
    (case tCInvalidOwn => k_is)
    (case hCInvalidOwn => k_is)
    (case iSInvalidOwn => k_is)
    (case aCInvalidOther => k_is)
    (case xLInvalidOther => k_is)
    (case saInvalidOther => k_is)
    (case gaInvalidOther => k_is)
    (case ggInvalidOther => k_is)
    (case nbInvalidOther => k_is)
    (case iCInvalidOther => k_is)
    (case tIInvalidOther => k_is)
    (case lIInvalidOther => k_is)
    (case cIInvalidOther => k_is)
    (case kIInvalidOther => k_is)
    (case kCInvalidOther => k_is)
    (case eCInvalidOther => k_is)
    (case tCInvalidOther => k_is)
    (case hCInvalidOther => k_is)
    (case iSInvalidOther => k_is)
    (case eOO => first | rfl | k_is)
    (case eTO => first | rfl | k_is)
    (case eTT => first | rfl | k_is)

