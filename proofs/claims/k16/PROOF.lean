import PyProof.Rows.All
import Wide.All
import OpenK.AllK
import Wide.FinOn
import HandS.ForMost
import HandS.ForExc
import HandS.ExcInit
import HandS.ExcField
import HandS.TryMany
import HandS.IsInst
import HandS.Gcd
import HandS.Wide
import HandS.TupMul
import HandS.TupAny
import HandS.TupLe
import HandS.Deep
import HandS.Flow
import HandS.Defaults
import HandS.Evl
import HandS.More
import HandS.WordsDict
import KE.KMathGC
import KE.KTupSum
import HandS.Walk
import KE.GoesMore
import HandS.Style
import PyProof.WalksMore
import PyProof.WalkInts
import HandS.Sort
import HandS.MakeKwOnly
import HandS.Conv
import HandS.Flt
import PySem.Challenge.RW_upforgood_k16_stairs_both_ways
set_option Elab.async false
set_option linter.all false
set_option maxRecDepth 100000
set_option maxHeartbeats 4000000
namespace L2.U
open PySem PySem.Spec PyProof.Rows Evl

/-! ## several except clauses, each with a name or without one -/
structure Clause where
  cls : Value
  slot : Option Nat
  rd : Addr → Value → Option Addr → TS
def afterC : Option Nat → Ends → Ends
  | none, D => D
  | some i, D => ⟨fun s h => D.nx (s.set i none) h, D.rt, fun s h => D.bk (s.set i none) h, fun s h => D.ct (s.set i none) h⟩
def holdC : Option Nat → Addr → St → St
  | none, _, s => s
  | some i, a, s => s.set i (some (.ref a))
def wishC (K : PySem.W.Frag) (Wo : WX) (D : Ends) : List Clause → WX
  | [] => Wo
  | c :: r => fun cls d s h => ∃ b, PySem.W.exmOne K cls c.cls = some b ∧
      (b = true → ∀ a, h a = none → c.rd a cls d (afterC c.slot D) (holdC c.slot a s) h) ∧ (b = false → wishC K Wo D r cls d s h)
abbrev SuiteOk (X : Cx) (body : List Stmt) (rd : Addr → Value → Option Addr → TS) : Prop :=
  ∀ (a : Addr) (o : Obj) (cls : Value) (d : Option Addr) (pn : List (Addr × Obj)), Zc cls d o → (∃ vs, o.data = .fields vs) → PSs (X.suite a ((a, o) :: pn)) body (rd a cls d)
inductive ClauseOk (X : Cx) : ExceptHandler → Clause → Prop
  | bare {x : Str} {c : Value} {rd} {b0 : Stmt} {su : List Stmt} {np p : Pos} (hc : Names X x c) (hs : SuiteOk X (b0 :: su) rd) :
      ClauseOk X (.ExceptHandler (some (.Name x np)) none (b0 :: su) p) ⟨c, none, rd⟩
  | named {x n : Str} {i : Nat} {c : Value} {rd} {b0 : Stmt} {su : List Stmt} {np p : Pos} (hN : X.N.Nodup) (hi : X.N[i]? = some n)
      (hl : X.env.kindOf n = some .local) (hc : Names X x c) (hs : SuiteOk X (b0 :: su) rd) :
      ClauseOk X (.ExceptHandler (some (.Name x np)) (some n) (b0 :: su) p) ⟨c, some i, rd⟩
inductive ClausesOk (X : Cx) : List ExceptHandler → List Clause → Prop
  | nil : ClausesOk X [] []
  | cons {h c hs cs} (a : ClauseOk X h c) (r : ClausesOk X hs cs) : ClausesOk X (h :: hs) (c :: cs)
section
variable {X : Cx} {body : List Stmt} {h0 : ExceptHandler} {hds : List ExceptHandler} {cs : List Clause} {pos : Pos} {tb : WX → TS} {Wo : WX}
theorem ps_tryC (hs : X.stack = X.env :: X.outer) (hf : X.env.frame = some X.env.locals) (tk : Takes X Wo)
    (hb : ∀ (W : WX) (pn : List (Addr × Obj)) (xe : Value → Shared → Prop), Takes (X.tr pn xe) W → PassesOwn (model X.prog X.w) X.A X.env xe → PSs (X.tr pn xe) body (tb W))
    (hh : ClausesOk X (h0 :: hds) cs) : PS X (.Try body (h0 :: hds) [] [] pos) (fun D s h => tb (wishC X.K Wo D cs) D s h) := by
  constructor
  intro pins s σ H D I h
  have ok := I.ok
  have frames : X.A.frames = some (X.env :: X.outer) := by rw [ok.frames, hs]
  refine wpAny_Try_except ?_
  let caught : Value → Shared → Prop := fun e s1 =>
    wpAny (model X.prog X.w) X.A (noteFrame e X.env) (fun _ s2 => wpAny (model X.prog X.w) X.A (setFlight e none)
      (fun _ s3 => wpAny (model X.prog X.w) X.A (handleBy e X.env (h0 :: hds)) (SP X pins D) X.xe s3) X.xe s2) X.xe s1
  have takesB : Takes (X.tr (X.pn ++ pins) caught) (wishC X.K Wo D cs) := by
    rintro u s' ⟨a, B, sI, pins', σ', H', cls, d, rfl, J0, nb, up, sky, na, os, ag, w⟩
    have J : Inv X pins σ' H' sI := J0.ofTry ok
    have sky1 : Sky B (X.env :: X.outer) a (Zc cls d) X.env.locals s'.heap := hs ▸ sky
    show wpAny _ X.A (noteFrame (.ref a) X.env) _ _ _
    refine Sky.land Zc.steady frames hf sky1 fun h3 fl up3 => ?_
    have J3 : Inv X pins σ' H' { s' with heap := h3 } := J.landed nb fl.1 (up.trans up3) os ag
    obtain ⟨o3, v3, g3, z3, d3⟩ := fl.there
    have out : a ∉ frs (X.env :: X.outer) := by
      intro hm
      obtain ⟨_, o', e', no⟩ := fl.2.2.1.mem hm
      rw [g3] at e'
      cases e'
      exact no _ d3
    have nL : a ≠ X.env.locals := by
      intro z
      exact out (List.mem_filterMap.mpr ⟨X.env, List.mem_cons_self, z ▸ hf⟩)
    have nF : a ∉ X.fs := by
      intro hm
      obtain ⟨e, he, q⟩ := List.mem_filterMap.mp hm
      exact out (List.mem_filterMap.mpr ⟨e, List.mem_cons_of_mem _ he, q⟩)
    have S3 := J3.suite g3 d3 na nL nF
    have ty : PySem.W.Looks (model X.prog X.w) h3 (typeOf (.ref a)) cls := fun A Q E t k q => wpAny_typeOf_ref (k _ _ g3) (by rw [z3.1]; exact q)
    have asked : ∀ {x : Str} {c : Value} {np : Pos} {Q E : Value → Shared → Prop}, Names X x c → Q c { s' with heap := h3 } →
        wpAny (model X.prog X.w) (X.A.mark (some (.ref a))) (eval (.Name x np) X.env) Q E { s' with heap := h3 } := by
      rintro x c np Q E ⟨hg, hd, hm | ⟨hm, hv, hn⟩⟩ q
      · exact ld_glob (X := X.suite a ((a, o3) :: (X.pn ++ pins))) S3 hg hm q hd
      · exact ld_blt (X := X.suite a ((a, o3) :: (X.pn ++ pins))) S3 hg hm hv q hn hd
    have run : ∀ {l : List ExceptHandler} {k : List Clause}, ClausesOk X l k → wishC X.K Wo D k cls d σ' H' →
        wpAny (model X.prog X.w) X.A (handleBy (.ref a) X.env l) (SP X pins D) X.xe { s' with heap := h3 } := by
      intro l k hk
      induction hk with
      | nil =>
        intro w
        refine wpAny_handleBy_nil ?_
        obtain ⟨_, _, _, oe, vs, T, oT, ts, he, _, hd, h1, _⟩ := id fl
        unfold PySem.passOn
        refine wpAny_bind (wpAny_field he hd h1 ?_)
        rw [if_neg (by simp : ¬ ((Value.ref T == Value.none) = true))]
        have up : wpAny (model X.prog X.w) X.A (setFlight (.ref a) X.env.frame)
            (fun _ t => wpAny (model X.prog X.w) X.A (throw (.ref a) : Sem Flow) (SP X pins D) X.xe t) X.xe { s' with heap := h3 } := by
          rw [hf]
          refine HandSPX.setFlight_upZ fl fun h4 hh4 up4 => wpAny_throw (tk _ _ ?_)
          refine ⟨a, B, sI, pins, σ', H', cls, d, rfl, J, nb, (up.trans up3).trans up4, .inr (.inr ?_), na, os, ag, w⟩
          rw [hs]
          exact hh4
        first
          | exact wpAny_bind (wpAny_pure (wpAny_bind up))
          | exact wpAny_bind up
      | @cons h1 c hs1 cs1 hc1 _ ih =>
        rintro ⟨b, mb, yes, no⟩
        have LM := PySem.W.exm_one (M := model X.prog X.w) J3.kIn ty mb
        cases hc1 with
        | @bare x c rd b0 su np p hc hsu =>
          refine wpAny_handleBy_cons (codeAny_handlers_test ?_) (by intro q; cases q)
          refine asked hc (LM.here ?_)
          cases b with
          | false => exact ih (no rfl)
          | true =>
            refine codeAny_handlers_suite (HandSPX.lands_againZ fl fun h4 fl4 up4 => ?_)
            have J4 : Inv X pins σ' H' { s' with heap := h4 } := J.landed nb fl4.1 ((up.trans up3).trans up4) os ag
            obtain ⟨o4, v4, g4, z4, d4⟩ := fl4.there
            refine wpAny_mono ((hsu a o4 cls d (X.pn ++ pins) z4 ⟨_, d4⟩).run [] _ _ H' _ (J4.suite g4 d4 na nL nF) (yes rfl a na)) ?_ (fun _ _ z => False.elim z)
            intro f s6 sp
            cases f with
            | ret u => obtain ⟨v6, σ6, H6, S6, r6, q6⟩ := sp; exact ⟨_, _, _, S6.unsuite ok, r6, q6⟩
            | next => obtain ⟨σ6, H6, S6, q6⟩ := sp; exact ⟨_, _, S6.unsuite ok, q6⟩
            | brk => obtain ⟨σ6, H6, S6, q6⟩ := sp; exact ⟨_, _, S6.unsuite ok, q6⟩
            | cont => obtain ⟨σ6, H6, S6, q6⟩ := sp; exact ⟨_, _, S6.unsuite ok, q6⟩
        | @named x n i c rd b0 su np p hN hi hl hc hsu =>
          refine wpAny_handleBy_cons (codeAny_handlers_test ?_) (by intro q; cases q)
          refine asked hc (LM.here ?_)
          cases b with
          | false => exact ih (no rfl)
          | true =>
            refine codeAny_handlers_suite_as (HandSPX.lands_againZ fl fun h4 fl4 up4 => ?_)
            have J4 : Inv X pins σ' H' { s' with heap := h4 } := J.landed nb fl4.1 ((up.trans up3).trans up4) os ag
            obtain ⟨o4, v4, g4, z4, d4⟩ := fl4.there
            refine store_ok (X := X.suite a ((a, o4) :: (X.pn ++ pins))) (v := .ref a) (J4.suite g4 d4 na nL nF) hN hi (.inl hl) rfl (fun s5 S5 => ?_) (.inr hl)
            refine wpAny_mono ((hsu a o4 cls d (X.pn ++ pins) z4 ⟨_, d4⟩).run [] s5 _ H' _ S5 (yes rfl a na)) ?_ (fun _ _ z => False.elim z)
            intro f s6 sp
            have gone : ∀ {σ6 : St} {H6 : Hp} {Q : Shared → Prop}, Inv (X.suite a ((a, o4) :: (X.pn ++ pins))) [] σ6 H6 s6 → (∀ t, Inv X pins (σ6.set i none) H6 t → Q t) →
                wpAny (model X.prog X.w) X.A (do bindName X.env n .none; unbindBehindTheSuite X.env n p) (fun _ t => Q t) X.xe s6 := fun S6 hq => gone_ok (S6.unsuite ok) hN hi hl hq
            cases f with
            | ret u => obtain ⟨v6, σ6, H6, S6, r6, q6⟩ := sp; exact gone S6 fun t J7 => ⟨_, _, _, J7, r6, q6⟩
            | next => obtain ⟨σ6, H6, S6, q6⟩ := sp; exact gone S6 fun t J7 => ⟨_, _, J7, q6⟩
            | brk => obtain ⟨σ6, H6, S6, q6⟩ := sp; exact gone S6 fun t J7 => ⟨_, _, J7, q6⟩
            | cont => obtain ⟨σ6, H6, S6, q6⟩ := sp; exact gone S6 fun t J7 => ⟨_, _, J7, q6⟩
    exact run hh w
  refine wpAny_mono ((hb (wishC X.K Wo D cs) (X.pn ++ pins) caught takesB PassesOwn.looking).run [] s σ H D (I.toTry _) h) ?_ (fun e s1 he => he)
  intro f s1 sp
  cases f with
  | ret u => obtain ⟨v, σ', H', J', r, q⟩ := sp; exact ⟨v, σ', H', J'.ofTry ok, r, q⟩
  | next => obtain ⟨σ', H', J', q⟩ := sp; exact wpAny_execs_nil ⟨σ', H', J'.ofTry ok, q⟩
  | brk => obtain ⟨σ', H', J', q⟩ := sp; exact ⟨σ', H', J'.ofTry ok, q⟩
  | cont => obtain ⟨σ', H', J', q⟩ := sp; exact ⟨σ', H', J'.ofTry ok, q⟩
end

/-! ## f(k = v, ..): keywords alone -/
def tCallKw (sp : Sp) (pm : List V → List V) (E : St → XK) (tk : TA) : TE := fun σ H Q => tk σ H fun zs H1 => sp (pm zs) H1 Q (E σ)
section
variable {X : Cx} {CX : CXT} {k : Nat} {f : Addr} {fd : FuncData} {ps ks : List Str} {sp : Sp} {E : St → XK} {x : Str} {p pos : Pos} {kws : List Keyword} {tk : TA}
  {g : List Value → List Value → List Value} {gV : List V → List V → List V}
theorem pe_callKw (F : FnOk X.prog X.w X.K X.mg X.base CX k f fd ps sp) (hr : Room k X.A) (hg : Gl X x) (hm : X.mg x = some (.ref f)) (hk : PySem.W.keepIn X.K (.ref f) = true)
    (hb : KBinds X.K fd ps ks g gV) (hx : ∀ σ, PassesAt CX X σ (E σ)) (hkw : PK X kws tk)
    (hall : (backToKw pos (keywordEach kws X.env)).all (·.1.isSome) = true := by rfl) (hks : (backToKw pos (keywordEach kws X.env)).filterMap (·.1) = ks := by rfl)
    (hdb : (x == ("__debug__" : Str)) = false := by decide)
    (hpl : ((backTo pos (starEach [] X.env)).any (·.1) || (backToKw pos (keywordEach kws X.env)).any (·.1.isNone)) = false := by rfl) :
    PE X (.Call (.Name x p) [] kws pos) (tCallKw sp (gV []) E tk) := by
  constructor
  intro pins s σ H Q I h
  refine wpAny_Call_Name_kw (ld_glob I hg hm ?_ hdb)
  refine PySem.W.callWith_KW0 (h₀ := X.base) I.ok.mod.kin hk hall (thn (hkw.run pos pins s σ H _ I h) ?_) hpl
  rintro ws s2 ⟨zs, H2, I2, rz, q2⟩
  refine ⟨I2.kIn, ?_⟩
  rw [hks]
  have r2 : Vals (gV [] zs) (g [] ws) := hb.rel .nil rz
  have hl : (g [] ws).length = ps.length := by rw [← r2.length]; exact F.len _ _ _ _ q2
  refine wpAny_call (codeAny_mono (F.run X.A X.stack s2 H2 ⟨[], ks.zip ws⟩ (g [] ws) (gV [] zs) Q (E σ) hr I2.env0 (hb.to s2 [] ws I2.kIn hl) r2 q2) ?_)
  intro r s' hq
  cases r with
  | error e => exact hx σ pins H2 s2 e s' I2 hq
  | ok fl => cases fl with
    | ret u => exact I2.after hq
    | next => exact False.elim hq
    | brk => exact False.elim hq
    | cont => exact False.elim hq
end

/-! ## math.comb, and tuple * int with few turns -/
section
variable {X : Cx}
def rComb : List V → Hp → VK → Prop := fun vs H Q => ∃ a b : Int, vs = [.int a, .int b] ∧ 0 ≤ a ∧ a ≤ 1000 ∧ 0 ≤ b ∧ b ≤ 1000 ∧ Q (.int (PySem.W.mcComb a b)) H
theorem cr_comb : CallR X (.builtin "math.comb") rComb := by
  intro pins s σ H vs us Q I r h
  obtain ⟨a, b, rfl, h1, h2, h3, h4, q⟩ := h
  obtain ⟨u1, u2, rfl, r1, r2⟩ := vals2 r
  obtain ⟨t, rfl⟩ := r1
  obtain ⟨u, rfl⟩ := r2
  exact PySem.W.mc_comb h1 h3 (by omega) (by omega) fun _ => ⟨.int _, H, I.tok _, ⟨_, rfl⟩, q⟩
end

/-! ## sum of a list or a tuple of ints; x *= y of great ints; a for over a list or a tuple -/
section
variable {X : Cx}
def rSumS (K : PySem.W.Frag) : List V → Hp → VK → Prop := fun vs H Q => ∃ (a : Addr) (ns : List Int), vs = [V.ref a] ∧ (SqL K H a (ns.map V.int) ∨ SqT K H a (ns.map V.int)) ∧ Q (.int ns.sum) H
theorem cr_sumS (hc : X.calm = true) : CallR X (.builtin "sum") (rSumS X.K) := by
  intro pins s σ H vs us Q I r h
  obtain ⟨a, ns, e, hs | hs, q⟩ := h
  · exact cr_sum hc pins s σ H vs us Q I r ⟨a, ns, e, hs, q⟩
  · subst e
    obtain ⟨its, rv, hl, _⟩ := I.tuple hs
    rw [Vals.ref1 r]
    have hi := rv.ints
    have hl2 : s.heap.IsTuple a its.toArray := hl
    obtain ⟨xs, ex⟩ := hi.allInts.items
    have hn : numsOf (intItems xs).toList = ns := by rw [← ex]; exact hi.numsOf
    rw [nums_intItems] at hn
    rw [ex] at hl2
    refine PySem.W.ktm_sumG (I.ok.hd hc) hl2 fun h' tk t' hk => ?_
    rw [preSum_eq, List.take_of_length_le (by simp), hn]
    exact ⟨.int _, H, I.kept hk, ⟨_, rfl⟩, q⟩
theorem ip_mulC : PIp X .Mult (fun x y H Q => ∃ i j, x = .int i ∧ y = .int j ∧ CMul i j ∧ Q (.int (i * j)) H) := by
  intro pins s σ H x y v u Q I r1 r2 h
  obtain ⟨i, j, rfl, rfl, hc, q⟩ := h
  obtain ⟨t, rfl⟩ := r1
  obtain ⟨t', rfl⟩ := r2
  exact imul_int ⟨.int _, H, I.tok _, ⟨_, rfl⟩, q⟩ hc.ok
def iSeq (K : PySem.W.Frag) (tl : TE) : TI := fun σ H R => iList K tl σ H R ∨ iTup K tl σ H R
theorem pi_seq {tg l : Expr} {tl : TE} (hl : PE X l tl) : PI X tg l (iSeq X.K tl) := by
  constructor
  intro pins s σ H R I h
  rcases h with h | h
  · exact (pi_list hl).run pins s σ H R I h
  · exact (pi_tup hl).run pins s σ H R I h
end

/-! ## how keywords bind -/
def kw1 {α : Type} : List α → List α → List α
  | [], [a] => [a]
  | _, _ => []
def kw12 {α : Type} : List α → List α → List α
  | [], [a, b] => [a, b]
  | _, _ => []
def kw21 {α : Type} : List α → List α → List α
  | [], [a, b] => [b, a]
  | _, _ => []
theorem kw1_rel {vs : List V} {us : List Value} {zs : List V} {ws : List Value} (r : Vals vs us) (t : Vals zs ws) : Vals (kw1 vs zs) (kw1 us ws) := by
  cases r with
  | cons _ _ => exact .nil
  | nil => cases t with
    | nil => exact .nil
    | cons a t => cases t with
      | nil => exact .cons a .nil
      | cons _ _ => exact .nil
theorem kw12_rel {vs : List V} {us : List Value} {zs : List V} {ws : List Value} (r : Vals vs us) (t : Vals zs ws) : Vals (kw12 vs zs) (kw12 us ws) := by
  cases r with
  | cons _ _ => exact .nil
  | nil => cases t with
    | nil => exact .nil
    | cons a t => cases t with
      | nil => exact .nil
      | cons b t => cases t with
        | nil => exact .cons a (.cons b .nil)
        | cons _ _ => exact .nil
theorem kw21_rel {vs : List V} {us : List Value} {zs : List V} {ws : List Value} (r : Vals vs us) (t : Vals zs ws) : Vals (kw21 vs zs) (kw21 us ws) := by
  cases r with
  | cons _ _ => exact .nil
  | nil => cases t with
    | nil => exact .nil
    | cons a t => cases t with
      | nil => exact .nil
      | cons b t => cases t with
        | nil => exact .cons b (.cons a .nil)
        | cons _ _ => exact .nil
theorem kb1 {K : PySem.W.Frag} {x qual : Str} {st : Stmt} {f : Addr} {fd : FuncData} {p k : Str} (F : Fun K x qual st f fd)
    (h : ∀ (kV doc pm : Value) (an : Option Addr) (cdv ct : Value) (u : Value), bindArgs (PySem.W.fnOf x qual (defArgs st) (defBody st) (defScope st) .none kV doc pm an cdv ct) ⟨[], [(k, u)]⟩ = pure [(p, u)]) : KBinds K fd [p] [k] kw1 kw1 := by
  obtain ⟨oc, od, kV, doc, pm, an, cdv, ct, osl, rfl, lk, hcd⟩ := F.ex
  refine ⟨fun s us ws _ hl => ?_, kw1_rel⟩
  match us, ws, hl with
  | [], [u], _ => exact .of_eq (h kV doc pm an cdv ct u)
theorem kb12 {K : PySem.W.Frag} {x qual : Str} {st : Stmt} {f : Addr} {fd : FuncData} {p q k l : Str} (F : Fun K x qual st f fd)
    (h : ∀ (kV doc pm : Value) (an : Option Addr) (cdv ct : Value) (u w : Value), bindArgs (PySem.W.fnOf x qual (defArgs st) (defBody st) (defScope st) .none kV doc pm an cdv ct) ⟨[], [(k, u), (l, w)]⟩ = pure [(p, u), (q, w)]) : KBinds K fd [p, q] [k, l] kw12 kw12 := by
  obtain ⟨oc, od, kV, doc, pm, an, cdv, ct, osl, rfl, lk, hcd⟩ := F.ex
  refine ⟨fun s us ws _ hl => ?_, kw12_rel⟩
  match us, ws, hl with
  | [], [u, w], _ => exact .of_eq (h kV doc pm an cdv ct u w)
theorem kb21 {K : PySem.W.Frag} {x qual : Str} {st : Stmt} {f : Addr} {fd : FuncData} {p q k l : Str} (F : Fun K x qual st f fd)
    (h : ∀ (kV doc pm : Value) (an : Option Addr) (cdv ct : Value) (u w : Value), bindArgs (PySem.W.fnOf x qual (defArgs st) (defBody st) (defScope st) .none kV doc pm an cdv ct) ⟨[], [(k, u), (l, w)]⟩ = pure [(p, w), (q, u)]) : KBinds K fd [p, q] [k, l] kw21 kw21 := by
  obtain ⟨oc, od, kV, doc, pm, an, cdv, ct, osl, rfl, lk, hcd⟩ := F.ex
  refine ⟨fun s us ws _ hl => ?_, kw21_rel⟩
  match us, ws, hl with
  | [], [u, w], _ => exact .of_eq (h kV doc pm an cdv ct u w)

/-! ## tuple * int -/
theorem tmul0 (l : Addr) (items : Array Value) (n : Nat) (dd : Option Addr) (sl : Array (Option Value)) (u : Tok) (hne : items.isEmpty = false) :
    Meets (Builtin.«tuple.__mul__» ⟨[.ref l, .int 0 u], []⟩) (fun _ R s => s.heap.get? l = some { cls := .type "tuple", dict := dd, data := .seq items n, slots := sl } ∧
      R (.ok (.ret (Value.ref s.heap.objs.size))) { s with heap := s.heap.push { cls := Value.type "tuple", data := Data.seq #[] } }) :=
  .of_wp fun prog w A R s h => by
    obtain ⟨hp, g, d, tk, os⟩ := s
    obtain ⟨hl, h⟩ := h
    have f1 := AutoSeq1.idx_int
    have c1 : (items.isEmpty || (0 : Int) == 1) = false := by rw [hne]; rfl
    wp_walk using wpAny_loadPart' hl
    exact ⟨_, rfl, h⟩
theorem tmul1 (l : Addr) (items : Array Value) (n : Nat) (dd : Option Addr) (sl : Array (Option Value)) (u : Tok) (hne : items.isEmpty = false) :
    Meets (Builtin.«tuple.__mul__» ⟨[.ref l, .int 1 u], []⟩) (fun _ R s => s.heap.get? l = some { cls := .type "tuple", dict := dd, data := .seq items n, slots := sl } ∧
      R (.ok (.ret (Value.ref l))) s) :=
  .of_wp fun prog w A R s h => by
    obtain ⟨hp, g, d, tk, os⟩ := s
    obtain ⟨hl, h⟩ := h
    have f1 := AutoSeq1.idx_int
    wp_walk using wpAny_loadPart' hl
    exact ⟨_, rfl, h⟩

def rRepA (K : PySem.W.Frag) : R2 := fun x y H Q => ∃ (l : Addr) (k : Int) (xs : List V), x = .ref l ∧ y = .int k ∧ SqT K H l xs ∧ xs ≠ [] ∧ 0 ≤ k ∧ k ≤ 1000 ∧ xs.length ≤ 1000 ∧
  ∀ p H', Ex H H' → SqT K H' p (List.replicate k.toNat xs).flatten → Q (.ref p) H'
theorem op_repA {X : Cx} : OpR X (binaryOp .Mult) (rRepA X.K) := by
  intro pins s σ H x y v u Q I rx ry h
  obtain ⟨l, k, xs, rfl, rfl, hT, hne, h0, h1, hz, q⟩ := h
  by_cases h2 : 2 ≤ k
  · exact op_repT pins s σ H (.ref l) (.int k) v u Q I rx ry ⟨l, k, xs, rfl, rfl, hT, hne, h2, h1, hz, fun p hp => q p _ (Ex.new hp) (st_of upd_same)⟩
  · cases rx
    obtain ⟨t, rfl⟩ := ry
    obtain ⟨its, r, ⟨⟨cls, dd, data, sl⟩, ho, hc, n, hd⟩, hs⟩ := I.tuple hT
    simp only at hc hd
    subst hc hd
    have hle : its.length = xs.length := r.length.symm
    have hi : its.toArray.isEmpty = false := by
      cases its with
      | nil => exact absurd (List.eq_nil_of_length_eq_zero hle.symm) hne
      | cons a b => rfl
    rcases (by omega : k = 0 ∨ k = 1) with rfl | rfl
    · refine wpAny_binaryOp_repeat_ref (T := "tuple") (U := "int") (by decide) ⟨_, ho, rfl⟩ (fun s' => typeIs_int s' 0 t) noFill_tuple_mul F.fills_int_mul F.slot_int_rmul repeat_tuple F.slot_int_index.lookup
        (call_meets F.slot_int_rmul (typeIs_int s 0 t) F.entry_int_rmul (F.args_int_rmul_2 _ _) (int_rmul_tuple 0 t l its.toArray n dd sl)
          ⟨ho, rfl, ⟨_, ho, rfl⟩, call_meets F.slot_tuple_mul ⟨_, ho, rfl⟩ F.entry_tuple_mul (F.args_tuple_mul_2 _ _) (tmul0 l its.toArray n dd sl t hi) ⟨ho, ?_⟩⟩)
      refine ⟨.ref s.heap.objs.size, _, I.laid (t' := s.toks) (o := .tup []) (fun b ob e => Heap.get?_push_of_some _ e) (Nat.le_refl _) ?_, rfl, q _ _ (Ex.new (I.hok.fresh (Nat.le_refl _))) (st_of upd_same)⟩
      exact ⟨Nat.zero_le _, [], .nil, IsTup.new _ _⟩
    · refine wpAny_binaryOp_repeat_ref (T := "tuple") (U := "int") (by decide) ⟨_, ho, rfl⟩ (fun s' => typeIs_int s' 1 t) noFill_tuple_mul F.fills_int_mul F.slot_int_rmul repeat_tuple F.slot_int_index.lookup
        (call_meets F.slot_int_rmul (typeIs_int s 1 t) F.entry_int_rmul (F.args_int_rmul_2 _ _) (int_rmul_tuple 1 t l its.toArray n dd sl)
          ⟨ho, rfl, ⟨_, ho, rfl⟩, call_meets F.slot_tuple_mul ⟨_, ho, rfl⟩ F.entry_tuple_mul (F.args_tuple_mul_2 _ _) (tmul1 l its.toArray n dd sl t hi) ⟨ho, ?_⟩⟩)
      refine ⟨.ref l, H, I, rfl, q _ _ (Ex.refl H) ?_⟩
      have e : (List.replicate (Int.toNat 1) xs).flatten = xs := by simp
      rw [e]
      exact hT

/-! ## a def of the text, in one bundle -/
structure DefAt (K : PySem.W.Frag) (mg : Str → Option Value) (x : Str) (st : Stmt) (ps : List Str) where
  a : Addr
  fd : FuncData
  F : Fun K x x st a fd
  m : mg x = some (.ref a)
  b : Binds K fd ps []
theorem pass0At {X : Cx} {σ : St} : PassesAt CX0 X σ E0 := fun _ _ _ _ _ _ h => h.elim

/-! ## heaps: all but one object stands -/
def But (b : Addr) (H H' : Hp) : Prop := ∀ a o, a ≠ b → H a = some o → H' a = some o
theorem But.of {b : Addr} {H H' : Hp} (e : Ex H H') : But b H H' := fun a o _ h => e a o h
theorem But.trans {b : Addr} {H H1 H2 : Hp} (x : But b H H1) (y : But b H1 H2) : But b H H2 := fun a o n h => y a o n (x a o n h)
theorem But.ex {b : Addr} {H H1 H2 : Hp} (x : But b H H1) (y : Ex H1 H2) : But b H H2 := fun a o n h => y a o (x a o n h)
theorem But.pre {b : Addr} {H H1 H2 : Hp} (x : Ex H H1) (y : But b H1 H2) : But b H H2 := fun a o n h => y a o n (x a o h)
theorem But.upd {b : Addr} {H : Hp} {o : HO} : But b H (upd H b o) := fun a u n h => by rw [upd_ne n]; exact h
theorem But.none {b p : Addr} {H H' : Hp} {o : HO} (x : But b H H') (hb : H b = some o) (h : H' p = none) : p ≠ b → H p = none := fun n => by
  cases e : H p with
  | none => rfl
  | some u => rw [x p u n e] at h; cases h
theorem ne_new {H : Hp} {p b : Addr} {o : HO} (h : H p = none) (hb : H b = some o) : p ≠ b := fun e => by rw [e, hb] at h; cases h
/-- what is frozen or written stands whatever happens to b; a tracked list that is no b, too -/
theorem But.sql {K : PySem.W.Frag} {b a : Addr} {H H' : Hp} {xs : List V} (x : But b H H') (n : a ≠ b) (h : SqL K H a xs) : SqL K H' a xs := by
  rcases h with (h | ⟨o, h⟩) | h
  · exact .inl (.inl (x _ _ n h))
  · exact .inl (.inr ⟨o, x _ _ n h⟩)
  · exact .inr h
theorem But.sqt {K : PySem.W.Frag} {b a : Addr} {H H' : Hp} {xs : List V} (x : But b H H') (n : a ≠ b) (h : SqT K H a xs) : SqT K H' a xs := by
  rcases h with (h | ⟨o, h⟩) | h
  · exact .inl (.inl (x _ _ n h))
  · exact .inl (.inr ⟨o, x _ _ n h⟩)
  · exact .inr h

/-! ## the box of draws: digits, flag, seed, count; n draws are left -/
def BoxAt (H : Hp) (b : Addr) (n : Nat) : Prop := ∃ (d m c : Int) (f : Bool), H b = some (.lst [.int d, .bl f, .int m, .int c]) ∧ 0 ≤ d ∧ 0 ≤ m ∧ m < 2147483648 ∧ 0 ≤ c ∧ c + n ≤ 1000000
theorem BoxAt.some {H : Hp} {b : Addr} {n : Nat} (h : BoxAt H b n) : ∃ o, H b = some o := by
  obtain ⟨d, m, c, f, h, _⟩ := h
  exact ⟨_, h⟩
theorem BoxAt.le {H : Hp} {b : Addr} {n k : Nat} (h : BoxAt H b n) (l : k ≤ n) : BoxAt H b k := by
  obtain ⟨d, m, c, f, h, h1, h2, h3, h4, h5⟩ := h
  exact ⟨d, m, c, f, h, h1, h2, h3, h4, by omega⟩
theorem BoxAt.ex {H H' : Hp} {b : Addr} {n : Nat} (h : BoxAt H b n) (e : Ex H H') : BoxAt H' b n := by
  obtain ⟨d, m, c, f, h, r⟩ := h
  exact ⟨d, m, c, f, e _ _ h, r⟩
theorem BoxAt.ne {H : Hp} {b p : Addr} {n : Nat} (h : BoxAt H b n) (hp : H p = none) : p ≠ b := by
  obtain ⟨d, m, c, f, h, _⟩ := h
  exact ne_new hp h
def spCell (K : PySem.W.Frag) : Sp := fun vs H Q _ => ∃ (a : Addr) (ns : List Int) (k : Int), vs = [.ref a, .int k] ∧ SqL K H a (ns.map V.int) ∧ 0 ≤ k ∧ k ≤ 1000 ∧ ∀ (v : Int) H', Ex H H' → Q (.int v) H'
def spBox : Sp := fun vs H Q _ => ∃ g : Int, vs = [.int g] ∧ ∀ p H', H p = none → Ex H H' → BoxAt H' p 1000000 → Q (.ref p) H'
def spTake : Sp := fun vs H Q _ => ∃ (b : Addr) (m : Int) (n : Nat), vs = [.ref b, .int m] ∧ 0 < m ∧ m < 1073741824 ∧ BoxAt H b (n + 1) ∧
  ∀ r H', 0 ≤ r → r < m → BoxAt H' b n → But b H H' → Q (.int r) H'

/-! ## types of data -/
theorem tyL {K : PySem.W.Frag} {H : Hp} {a : Addr} {xs : List V} (h : SqL K H a xs) : TyX K H (.ref a) (.type "list") := by
  rcases h with (h | ⟨o, h⟩) | ⟨o, its, n, hk, hc, _⟩
  · exact .base (.lst h)
  · exact .base (.frz h)
  · exact .kList hk hc
theorem tyT {K : PySem.W.Frag} {H : Hp} {a : Addr} {xs : List V} (h : SqT K H a xs) : TyX K H (.ref a) (.type "tuple") := by
  rcases h with (h | ⟨o, h⟩) | ⟨o, its, n, hk, hc, _⟩
  · exact .base (.tup h)
  · exact .fTuple h
  · exact .kTuple hk hc
/-- two values that hold the same, at most n lists and tuples within one another -/
inductive Sm (K : PySem.W.Frag) (H : Hp) : Nat → V → V → Prop
  | non {n} : Sm K H n .non .non
  | bl {n} (b : Bool) : Sm K H n (.bl b) (.bl b)
  | int {n} (i : Int) : Sm K H n (.int i) (.int i)
  | str {n} (z : Str) (h : z.length ≤ 1000) : Sm K H n (.str z) (.str z)
  | lst {n} {a b : Addr} {xs ys : List V} (h1 : SqL K H a xs) (h2 : SqL K H b ys) (hl : xs.length = ys.length) (hz : xs.length ≤ 1000)
      (all : ∀ (i : Nat) (x y : V), xs[i]? = some x → ys[i]? = some y → Sm K H n x y) : Sm K H (n + 1) (.ref a) (.ref b)
  | tup {n} {a b : Addr} {xs ys : List V} (h1 : SqT K H a xs) (h2 : SqT K H b ys) (hl : xs.length = ys.length) (hz : xs.length ≤ 1000)
      (all : ∀ (i : Nat) (x y : V), xs[i]? = some x → ys[i]? = some y → Sm K H n x y) : Sm K H (n + 1) (.ref a) (.ref b)
  | dct {n} {a b : Addr} (h1 : H a = some (.dK [])) (h2 : H b = some (.dK [])) : Sm K H (n + 1) (.ref a) (.ref b)
theorem Sm.ex {K : PySem.W.Frag} {H H' : Hp} (e : Ex H H') {n : Nat} {x y : V} (h : Sm K H n x y) : Sm K H' n x y := by
  induction h with
  | non => exact .non
  | bl b => exact .bl b
  | int i => exact .int i
  | str z h => exact .str z h
  | lst h1 h2 hl hz _ ih => exact .lst (ex_l e h1) (ex_l e h2) hl hz ih
  | tup h1 h2 hl hz _ ih => exact .tup (ex_t e h1) (ex_t e h2) hl hz ih
  | dct h1 h2 => exact .dct (e _ _ h1) (e _ _ h2)
theorem Sm.succ {K : PySem.W.Frag} {H : Hp} {n : Nat} {x y : V} (h : Sm K H n x y) : Sm K H (n + 1) x y := by
  induction h with
  | non => exact .non
  | bl b => exact .bl b
  | int i => exact .int i
  | str z h => exact .str z h
  | lst h1 h2 hl hz _ ih => exact .lst h1 h2 hl hz ih
  | tup h1 h2 hl hz _ ih => exact .tup h1 h2 hl hz ih
  | dct h1 h2 => exact .dct h1 h2
theorem Sm.le {K : PySem.W.Frag} {H : Hp} {n m : Nat} {x y : V} (h : Sm K H n x y) (l : n ≤ m) : Sm K H m x y := by
  induction l with
  | refl => exact h
  | step _ ih => exact ih.succ
theorem Sm.ints {K : PySem.W.Frag} {H : Hp} {n : Nat} {ns : List Int} : ∀ (i : Nat) (x y : V), (ns.map V.int)[i]? = some x → (ns.map V.int)[i]? = some y → Sm K H n x y := by
  intro i x y h1 h2
  rw [h1] at h2
  cases h2
  rw [List.getElem?_map] at h1
  cases e : ns[i]? with
  | none => rw [e] at h1; cases h1
  | some z => rw [e] at h1; cases h1; exact .int z
def spSame (K : PySem.W.Frag) (n : Nat) : Sp := fun vs H Q _ => ∃ x y, vs = [x, y] ∧ Sm K H n x y ∧ ∀ H', Ex H H' → Q (.bl true) H'
theorem cut_one {z : Str} {k : Nat} {c : Nat} (h : z.cps.toList[k]? = some c) : cutS z (some (k : Int)) (some ((k : Int) + 1)) = ⟨#[c]⟩ := by
  have hk := (List.getElem?_eq_some_iff.mp h).1
  have hz : z.cps.toList.length = z.length := Array.length_toList
  unfold cutS
  have e : ((k : Int) + 1) = ((k + 1 : Nat) : Int) := by omega
  rw [e, HT.sIx_nat, HT.sIx_nat, Nat.min_eq_left (by omega), Nat.min_eq_left (by omega)]
  have e2 : k + 1 - k = 1 := by omega
  rw [e2, List.drop_eq_getElem_cons hk]
  have e3 := (List.getElem?_eq_some_iff.mp h).2
  simp [e3]

/-! ## the rules whose reading speaks of the written part, with it named (within a comprehension's block) -/
section
variable {X : Cx}
def rLen (K : PySem.W.Frag) : List V → Hp → VK → Prop := fun xs H Q => ∃ x n, xs = [x] ∧ LenV K x H n ∧ Q (.int (n : Nat)) H
def rListOf (K : PySem.W.Frag) : List V → Hp → VK → Prop := fun xs H Q => ∃ p ys, xs = [.ref p] ∧ (SqL K H p ys ∨ SqT K H p ys) ∧ ∀ l, H l = none → Q (.ref l) (upd H l (.lst ys))
def rTupOf (K : PySem.W.Frag) : List V → Hp → VK → Prop := fun xs H Q => ∃ p ys, xs = [.ref p] ∧ ((SqL K H p ys ∧ ∀ l, H l = none → Q (.ref l) (upd H l (.tup ys))) ∨ (SqT K H p ys ∧ Q (.ref p) H))
theorem kix (K : PySem.W.Frag) (h : X.K = K := by rfl) : IxR X (rIx K) := by subst h; exact ix_seq
theorem kixl (K : PySem.W.Frag) (h : X.K = K := by rfl) : IxR X (rIxL K) := by subst h; exact ix_list
theorem kixt (K : PySem.W.Frag) (h : X.K = K := by rfl) : IxR X (rIxT K) := by subst h; exact ix_tup
theorem klen (K : PySem.W.Frag) (h : X.K = K := by rfl) : CallR X (.builtin "len") (rLen K) := by subst h; exact call_len
theorem klist (K : PySem.W.Frag) (h : X.K = K := by rfl) : CallR X (.type "list") (rListOf K) := by subst h; exact call_list_of
theorem ktuple (K : PySem.W.Frag) (h : X.K = K := by rfl) : CallR X (.type "tuple") (rTupOf K) := by subst h; exact call_tuple_of
theorem kisi (K : PySem.W.Frag) (h : X.K = K := by rfl) : CallR X (.builtin "isinstance") (rIsi K) := by subst h; exact call_isi
theorem kisiT (K : PySem.W.Frag) (h : X.K = K := by rfl) : CallR X (.builtin "isinstance") (rIsiT K) := by subst h; exact call_isiT
theorem keqD (K : PySem.W.Frag) (hu : X.A.units + 64 < cLine) (h : X.K = K := by rfl) : OpR X (compareOp .Eq) (rEqD K) := by subst h; exact op_eqD hu
theorem kneD (K : PySem.W.Frag) (hu : X.A.units + 64 < cLine) (h : X.K = K := by rfl) : OpR X (compareOp .NotEq) (rNeD K) := by subst h; exact op_neD hu
theorem kin (K : PySem.W.Frag) (h : X.K = K := by rfl) : OpR X (compareOp .In) (rIn K false) := by subst h; exact op_in_seq
theorem knotin (K : PySem.W.Frag) (h : X.K = K := by rfl) : OpR X (compareOp .NotIn) (rIn K true) := by subst h; exact op_notIn_seq
theorem kcatA (K : PySem.W.Frag) (h : X.K = K := by rfl) : OpR X (binaryOp .Add) (rCatA K) := by subst h; exact op_catA
theorem krepA (K : PySem.W.Frag) (h : X.K = K := by rfl) : OpR X (binaryOp .Mult) (rRepA K) := by subst h; exact op_repA
theorem kslL (K : PySem.W.Frag) (h : X.K = K := by rfl) : SlR X (rSlL K) := by subst h; exact sl_list
theorem kslT (K : PySem.W.Frag) (h : X.K = K := by rfl) : SlR X (rSlA K) := by subst h; exact sl_tupA
theorem ksum (K : PySem.W.Frag) (hc : X.calm = true) (h : X.K = K := by rfl) : CallR X (.builtin "sum") (rSumS K) := by subst h; exact cr_sumS hc
theorem kall (K : PySem.W.Frag) (hc : X.calm = true) (h : X.K = K := by rfl) : CallR X (.builtin "all") (rAll K) := by subst h; exact cr_all hc
theorem kpil (K : PySem.W.Frag) {tg l : Expr} {tl : TE} (hl : PE X l tl) (h : X.K = K := by rfl) : PI X tg l (iList K tl) := by subst h; exact pi_list hl
theorem kpit (K : PySem.W.Frag) {tg l : Expr} {tl : TE} (hl : PE X l tl) (h : X.K = K := by rfl) : PI X tg l (iTup K tl) := by subst h; exact pi_tup hl
theorem kpis (K : PySem.W.Frag) {tg l : Expr} {tl : TE} (hl : PE X l tl) (h : X.K = K := by rfl) : PI X tg l (iSeq K tl) := by subst h; exact pi_seq hl
end

/-! ## own errors with one attribute -/
structure ErrAt (K : PySem.W.Frag) (mg : Str → Option Value) (x qi : Str) (st : Stmt) (f : Str) where
  C : Addr
  fI : Addr
  fd : FuncData
  F : Fun K "__init__" qi st fI fd
  b : Binds K fd ["self", f] []
  T : OexC K C
  iC : PySem.W.findIn K (.ref C) "__init__" = some (some (.ref fI))
  tI : PySem.W.typeIn K (.ref fI) = some (.type "function")
  gC : mg x = some (.ref C)
  nf : PySem.W.findIn K (.ref C) f = some none
  xf : XfC K C
def spInit (C : Addr) (f : Str) : Sp := fun vs H Q _ => ∃ (a : Addr) (y : V), vs = [.ref a, y] ∧ H a = some (exo a C none) ∧
  ∀ d, H d = none → d ≠ a → Q .non (upd (upd H d (exd d [(f, y)])) a (exo a C (some d)))
theorem raised {C a : Addr} {H : Hp} {f : Str} {y : V} {Q : XK} {E : XK} (ha : H a = none) (q : ∀ d H', Ex H H' → H' d = some (.xd [(f, y)]) → Q (.ref C) (some d) H') :
    spInit C f [.ref a, y] (upd H a (exo a C none)) (fun v H2 => v = .non ∧ ∃ (d : Addr) (fs : List (Str × V)), H2 a = some (exo a C (some d)) ∧ H2 d = some (exd d fs) ∧ H d = none ∧ Q (.ref C) (some d) (upd (del H2 a) d (.xd fs))) E := by
  refine ⟨a, y, rfl, upd_same, fun d hd nd => ⟨rfl, d, [(f, y)], upd_same, ?_, ?_, ?_⟩⟩
  · rw [upd_ne nd]; exact upd_same
  · rw [upd_ne nd] at hd; exact hd
  · rw [upd_ne nd] at hd
    refine q d _ (fun b o hb => ?_) upd_same
    have h1 : b ≠ a := ne_of_none hb ha
    have h2 : b ≠ d := ne_of_none hb hd
    rw [upd_ne h2, del_ne h1, upd_ne h1, upd_ne h2, upd_ne h1]
    exact hb
/-- a check: it lets what is right, else raises the error of C with the very value -/
def spChk (C : Addr) (ok : Int → Prop) : Sp := fun vs H Q E => ∃ i : Int, vs = [.int i] ∧ (ok i → ∀ H', Ex H H' → Q .non H') ∧
  (¬ ok i → ∀ d H', Ex H H' → H' d = some (.xd [("given", .int i)]) → E (.ref C) (some d) H')
end L2.U


set_option Elab.async false
set_option linter.all false
set_option maxRecDepth 100000
set_option maxHeartbeats 4000000
namespace L2.U
open PySem PySem.Spec PyProof.Rows Evl
open Sem (wp)
open AutoSeq1 (wpAny_loadPart')
/-! ### enumerate(tuple), and enumerate of a list or a tuple -/
theorem meets_enumT (l : Addr) (items : Array Value) (n : Nat) (dct : Option Addr) (sl : Array (Option Value)) :
    Meets (Builtin.«enumerate.__new__» ⟨[.type "enumerate", .ref l], []⟩) (fun _ R s => s.heap.get? l = some { cls := .type "tuple", dict := dct, data := .seq items n, slots := sl } ∧
      R (.ok (.ret (.ref (s.heap.push { cls := .type "tuple_iterator", data := .fields #[.ref l, .int 0 0] }).objs.size)))
        { s with heap := (s.heap.push { cls := .type "tuple_iterator", data := .fields #[.ref l, .int 0 0] }).push { cls := .type "enumerate", data := .fields #[.none, .bool false, .ref s.heap.objs.size, rawInt 0, .none, .none] } }) :=
  .of_wp fun prog w A R s h => by
    obtain ⟨hp, g, d, tk, os⟩ := s
    obtain ⟨hl, h⟩ := h
    have hsub := sub_enumerate
    have hL : Heap.IsTuple (Shared.heap ⟨hp, g, d, tk, os⟩) l items := ⟨_, hl, rfl, n, rfl⟩
    wp_walk using wpAny_loadPart' hl
    refine wpAny_stack_any fun st => wpAny_pure ?_
    split
    · rename_i c _ _ _ _ _
      cases (c == Value.type "enumerate")
      · wp_walk using wpAny_loadPart' hl, wpAny_pyIter_tuple hL
        exact ⟨_, rfl, h⟩
      · wp_walk using wpAny_loadPart' hl, wpAny_pyIter_tuple hL
        exact ⟨_, rfl, h⟩
    · wp_walk using wpAny_loadPart' hl, wpAny_pyIter_tuple hL
      exact ⟨_, rfl, h⟩
theorem call_enumT {prog : Program} {w : World} {A : Around} {E : Value → Shared → Prop} {s : Shared} {l : Addr} {items : Array Value} {Q : Value → Shared → Prop} (hL : s.heap.IsTuple l items)
    (h : ∀ h', IsEnum h' (s.heap.objs.size + 1) s.heap.objs.size 0 .none → h'.IsTupleIter s.heap.objs.size l 0 → h'.objs.size = s.heap.objs.size + 2 →
      (∀ b o, s.heap.get? b = some o → h'.get? b = some o) → Q (.ref (s.heap.objs.size + 1)) { s with heap := h' }) :
    wpAny (model prog w) A (call (.type "enumerate") [.ref l]) Q E s := by
  obtain ⟨⟨c, dct, dt, sl⟩, hl, hc, n, hd⟩ := hL
  replace hc : c = .type "tuple" := hc
  replace hd : dt = .seq items n := hd
  subst hc hd
  refine callType_new F.called_enumerate (by decide) (F.typeCall_enumerate_1 _) (F.newCall_enumerate_1 _) (fun obj => F.args_object_init_2 obj _) F.entry_enumerate_new
    (meets_enumT l items n dct sl) ⟨hl, ?_⟩
  have hz : (s.heap.push { cls := .type "tuple_iterator", data := .fields #[.ref l, .int 0 0] }).objs.size = s.heap.objs.size + 1 := Heap.size_push ..
  show _ ∧ _
  rw [hz]
  have he : IsEnum ((s.heap.push { cls := .type "tuple_iterator", data := .fields #[.ref l, .int 0 0] }).push
      { cls := .type "enumerate", data := .fields #[.none, .bool false, .ref s.heap.objs.size, rawInt 0, .none, .none] }) (s.heap.objs.size + 1) s.heap.objs.size 0 .none := by
    have := Heap.get?_push_size (s.heap.push { cls := .type "tuple_iterator", data := .fields #[.ref l, .int 0 0] })
      (o := { cls := .type "enumerate", data := .fields #[.none, .bool false, .ref s.heap.objs.size, rawInt 0, .none, .none] }) rfl
    rw [hz] at this
    exact this
  refine ⟨⟨_, he, rfl⟩, h _ he ⟨_, Heap.get?_push_of_some _ (Heap.get?_push_size _ rfl), rfl, rfl⟩ (by rw [Heap.size_push, hz]) fun b o x => Heap.get?_push_of_some _ (Heap.get?_push_of_some _ x)⟩
def IteT (K : PySem.W.Frag) (a : Addr) : It :=
  ⟨fun i H => ∃ (xs : List V) (x : V), SqT K H a xs ∧ xs[i]? = some x, fun i H v H' => ∃ T x, v = .ref T ∧ H T = none ∧ H' = upd H T (.tup [.int (i : Nat), x]) ∧ ∀ xs, SqT K H a xs → xs[i]? = some x, fun i H => ∃ xs : List V, SqT K H a xs ∧ xs.length ≤ i⟩
theorem turn_enumT {P : Program} {w : World} {K : PySem.W.Frag} {elts : List Expr} {kk : Nat} {tpos : Pos} (a e it : Addr) (hai : a ≠ it) (hae : a ≠ e) :
    Turn P w K (.Tuple elts kk tpos) (IteT K a) [e, it] e (fun i h => (∃ old, IsEnum h e it ((i : Nat) : Int) old) ∧ h.IsTupleIter it a i ∧ e ≠ it) where
  mem := by simp
  obj := fun i h st b hb => by
    obtain ⟨⟨old, he⟩, ⟨o, ho, hc, hd⟩, _⟩ := st
    have e' : b = e ∨ b = it := by simpa using hb
    rcases e' with z | z
    · rw [z]; exact ⟨_, he, fun v q => nomatch q⟩
    · rw [z]; exact ⟨o, ho, fun v q => by rw [hd] at q; cases q⟩
  keep := fun i h h' st k => let ⟨⟨old, he⟩, hi, hne⟩ := st; ⟨⟨old, k e (by simp) _ he⟩, hi.at fun o q => k it (by simp) o q, hne⟩
  item := by
    intro X hP hw hK hc i pins s σ H E I hf st hg
    subst hP hw hK
    obtain ⟨⟨old, he⟩, hit, hne⟩ := st
    obtain ⟨xs, x, hq, hx⟩ := hg
    obtain ⟨its, rv, p, hz⟩ := I.tuple hq
    have p' : s.heap.IsTuple a its.toArray := p
    obtain ⟨u, hu, ru⟩ := rv.get hx
    have hel : e < s.heap.objs.size := Heap.lt_size he
    have hil : it < s.heap.objs.size := by obtain ⟨_, q, _⟩ := hit; exact Heap.lt_size q
    have hlt : i < its.toArray.size := by simpa using (List.getElem?_eq_some_iff.mp hu).1
    refine wpAny_pyNext_enum_itemD (Draws.tuple (prog := X.prog) (w := X.w) (A := X.A.in1) (I.ok.hd hc) it a hai its.toArray) he ⟨hit, p'⟩ hlt hne (by simp [hne, Ne.symm hae]) fun v h' tk hv ho hst hT hsz hk => ?_
    obtain ⟨hit', p2⟩ := hst
    have hvu : v = u := by
      have h2 : its.toArray[i]? = some u := by simpa using hu
      rw [h2] at hv
      exact (Option.some.inj hv).symm
    subst hvu
    refine ⟨_, rfl, wpAny_letOwnedTupleGo_enum (s := { s with heap := h', toks := tk + 1 }) ho fun h'' he' sb => ?_⟩
    have hT2 : h''.get? s.heap.objs.size = some { cls := .type "tuple", data := .seq #[.int i tk, v] } := (sb.2 _ (Nat.ne_of_gt hel)).trans hT
    have new : ObjOk X.prog X.w (upd H s.heap.objs.size (.tup [.int (i : Nat), x])) h'' s.heap.objs.size (.tup [.int (i : Nat), x]) :=
      ⟨by show 2 ≤ sizeLine; decide, [.int i tk, v], .cons ⟨_, rfl⟩ (.cons ru .nil), ⟨_, hT2, rfl, _, rfl⟩⟩
    have I1 : Inv X pins σ (upd H s.heap.objs.size (.tup [.int (i : Nat), x])) { s with heap := h'', toks := tk + 1 } :=
      I.turnedNew (ch := [e, it]) (fun b ob hb q => (sb.2 b (fun z => hb (by simp [z]))).trans (hk b ob (fun z => hb (by simp [z])) (fun z => hb (by simp [z])) q)) hf (Nat.le_refl _) new
    refine ⟨.ref s.heap.objs.size, _, I1, rfl, ⟨_, x, rfl, I.hok.fresh (Nat.le_refl _), rfl, fun ys hy => by rw [I.tuple_inj hy hq]; exact hx⟩, ⟨⟨v, ?_⟩, hit'.at fun o q => (sb.2 it (Ne.symm hne)).trans q, hne⟩, fun b hb => ?_⟩
    · have e1 : ((i + 1 : Nat) : Int) = (i : Int) + 1 := by omega
      rw [e1]; exact he'
    · have hb' : b < s.heap.objs.size := by
        have e' : b = e ∨ b = it := by simpa using hb
        rcases e' with z | z
        · rw [z]; exact hel
        · rw [z]; exact hil
      rw [upd_ne (Nat.ne_of_lt hb')]
      exact (hf b hb).1
  done := by
    intro X hP hw hK hc i pins s σ H E I hf st hg
    subst hP hw hK
    obtain ⟨⟨old, he⟩, hit, hne⟩ := st
    obtain ⟨xs, hq, hx⟩ := hg
    obtain ⟨its, rv, p, hz⟩ := I.tuple hq
    have p' : s.heap.IsTuple a its.toArray := p
    obtain ⟨f0, f1, f2, f3, f4, f5⟩ := hf it (by simp)
    have hl := rv.length
    have full : Draws X.prog X.w X.A.in1 it [it, a] i (fun _ _ => True) (fun j h => j = i ∧ h.IsTupleIter it a j ∧ h.IsTuple a its.toArray) :=
      { live := fun j h st => let ⟨_, ⟨o, ho, _⟩, _⟩ := st; ⟨o, ho⟩
        frame := fun j h h' st hk => ⟨st.1, st.2.1.at fun o e => hk it (by simp) o e, by
          obtain ⟨o, ho, r⟩ := st.2.2
          exact ⟨o, hk a (by simp) o ho, r⟩⟩
        item := fun j s Q E hj st hQ => absurd st.1 (Nat.ne_of_lt hj)
        done := fun s Q E st hE => wpAny_nextOf_tuple_end (show X.A.in1.handled = none from I.ok.hd hc) st.2.1 st.2.2 (by simp; omega) hE }
    exact wpAny_pyNext_enum_endD full he ⟨rfl, hit, p'⟩ fun h' eb => ⟨rfl, I.turned (t' := s.toks) (fun b o hb q => eb b o hb q) f0 f1 f3 f4 f5⟩
  self := fun A i s Q E st h => let ⟨⟨_, he⟩, _⟩ := st; wpAny_pyIter_enum he h
def iEnumT (K : PySem.W.Frag) (ta : TA) : TI := fun σ H R => ta σ H fun vs H1 => ∃ a xs, vs = [.ref a] ∧ SqT K H1 a xs ∧ R (IteT K a) H1
theorem pi_enumT {X : Cx} {e : Expr} {ta : TA} {p pos tpos : Pos} {elts : List Expr} {kk : Nat} (hg : Gl X "enumerate") (hm : X.mg "enumerate" = none) (ha : PA X [e] ta) (hs : starEach [e] X.env = [(false, eval e X.env)] := by rfl) :
    PI X (.Tuple elts kk tpos) (.Call (.Name "enumerate" p) [e] [] pos) (iEnumT X.K ta) := by
  refine ⟨fun pins s σ H R I h => ?_⟩
  refine Call_ (ld_blt I hg hm boot_enumerate (PyProof.Rows.callWith_type1 (thn (ha.run pos pins s σ H _ I h) fun us s1 ⟨vs, H1, I1, r1, q1⟩ => ?_) hs rfl))
  obtain ⟨a, xs, ex, hq, q⟩ := q1
  subst ex
  cases r1 with
  | cons r rr =>
    cases rr
    cases r
    obtain ⟨its, rv, p', hz⟩ := I1.tuple hq
    have p2 : s1.heap.IsTuple a its.toArray := p'
    have hal : a < s1.heap.objs.size := by obtain ⟨_, q, _⟩ := p2; exact Heap.lt_size q
    refine call_enumT p2 fun h' he hit hsz hk => wpAny_pyIter_enum he ?_
    have I2 : Inv X pins σ H1 { s1 with heap := h' } := I1.kept (t' := s1.toks) hk
    refine ⟨s1.heap.objs.size + 1, [s1.heap.objs.size + 1, s1.heap.objs.size], _, _, H1, rfl, I2, turn_enumT a (s1.heap.objs.size + 1) s1.heap.objs.size (Nat.ne_of_lt hal) (Nat.ne_of_lt (Nat.lt_succ_of_lt hal)), ⟨⟨.none, he⟩, hit, Nat.succ_ne_self _⟩, fun b hb => ?_, q⟩
    have e' : b = s1.heap.objs.size + 1 ∨ b = s1.heap.objs.size := by simpa using hb
    have hle : s1.heap.objs.size ≤ b := by
      rcases e' with z | z
      · rw [z]; exact Nat.le_add_right _ _
      · rw [z]; exact Nat.le_refl _
    exact I1.fpOk hle (I1.hok.fresh hle)
def iEnumS (K : PySem.W.Frag) (ta : TA) : TI := fun σ H R => iEnum K ta σ H R ∨ iEnumT K ta σ H R
theorem pi_enumS {X : Cx} {e : Expr} {ta : TA} {p pos tpos : Pos} {elts : List Expr} {kk : Nat} (hg : Gl X "enumerate") (hm : X.mg "enumerate" = none) (ha : PA X [e] ta) (hs : starEach [e] X.env = [(false, eval e X.env)] := by rfl) :
    PI X (.Tuple elts kk tpos) (.Call (.Name "enumerate" p) [e] [] pos) (iEnumS X.K ta) := by
  refine ⟨fun pins s σ H R I h => ?_⟩
  rcases h with h | h
  · exact (pi_enum hg hm ha hs).run pins s σ H R I h
  · exact (pi_enumT hg hm ha hs).run pins s σ H R I h
section
variable {K : PySem.W.Frag} {a : Addr} {xs : List V}
theorem walk_enumT : Walk (IteT K a) xs.length (fun H => SqT K H a xs) (YPair (fun i => some (.int (i : Nat))) (fun i => xs[i]?)) := by
  refine ⟨fun i _ hi q => ⟨xs, xs[i], q, by simp [hi]⟩, fun _ q => ⟨xs, q, Nat.le_refl _⟩, fun i H v H' _ q y => ?_⟩
  obtain ⟨T, x, h1, h2, h3, h4⟩ := y
  exact ⟨T, .int (i : Nat), x, h1, h2, h3, rfl, h4 xs q⟩
/-- for i, x in enumerate(xs) with two names as the target: the pair is a new tuple that nobody keeps -/
theorem for_enum {tb : TS} {D : Ends} {σ : L2.St} {H : Hp} {p q : Nat} {ta : TA} (ea : ∀ R : List V → Hp → Prop, R [.ref a] H → ta σ H R) (hx : SqL K H a xs ∨ SqT K H a xs) (Pv : Nat → L2.St → Hp → Prop) (h0 : Pv 0 σ H)
    (hG : ∀ i σ H', i ≤ xs.length → Pv i σ H' → Ex H H')
    (hs : ∀ i x σ H' T, xs[i]? = some x → Pv i σ H' → H' T = none → tb { D with nx := Pv (i + 1), ct := Pv (i + 1), bk := D.nx } ((σ.set p (some (.int (i : Int)))).set q (some x)) (upd H' T (.tup [.int (i : Int), x]))) (hd : ∀ σ H, Pv xs.length σ H → D.nx σ H) :
    tFor (iEnumS K ta) (gTup K 2 (gCons (gName p) (gCons (gName q) gNil))) tb D σ H := by
  have turn : ∀ i v σ' H1 H2, i < xs.length → Pv i σ' H1 → YPair (fun i => some (V.int (i : Nat))) (fun i => xs[i]?) i H1 v H2 → gTup K 2 (gCons (gName p) (gCons (gName q) gNil)) v σ' H2 fun σ2 H3 => tb { D with nx := Pv (i + 1), ct := Pv (i + 1), bk := D.nx } σ2 H3 := by
    rintro i v σ' H1 H2 hi pv ⟨T, u, x, rfl, hT, rfl, h1, h2⟩
    cases Option.some.inj h1
    exact ⟨T, _, rfl, SqT.of upd_same, rfl, _, _, rfl, _, _, rfl, rfl, hs i x σ' H1 T h2 pv hT⟩
  rcases hx with hx | hx
  · exact .inl (ea _ ⟨a, xs, rfl, hx, for_it walk_enum Pv h0 (fun i σ' H' hi pv => ex_l (hG i σ' H' hi pv) hx) turn hd⟩)
  · exact .inr (ea _ ⟨a, xs, rfl, hx, for_it walk_enumT Pv h0 (fun i σ' H' hi pv => ex_t (hG i σ' H' hi pv) hx) turn hd⟩)
end
end L2.U


set_option Elab.async false
set_option linter.all false
set_option maxRecDepth 100000
set_option maxHeartbeats 4000000
namespace L2.U
open PySem PySem.Spec PyProof.Rows Evl
/-! ### min of a list or a tuple of ints -/
section
variable {prog : Program} {w : World} {A : Around} {E : Value → Shared → Prop} {s : Shared} {l : Addr} {xs : Array (Int × Tok)}
theorem iter_intTup {Q : Value → Shared → Prop} (hl : s.heap.IsTuple l (intItems xs))
    (h : ∀ s₂ : Shared, s₂ = { s with heap := s.heap.push { cls := .type "tuple_iterator", data := .fields #[.ref l, .int 0 0] } } →
      (s₂.heap.IsTupleIter s.heap.objs.size l 0 ∧ s₂.heap.IsTuple l (intItems xs)) → (∀ b ∈ [s.heap.objs.size, l], b < s₂.heap.objs.size) → l ≠ s.heap.objs.size → Q (.ref s.heap.objs.size) s₂) :
    wpAny (model prog w) A (pyIter (.ref l)) Q E s := by
  have hlt : l < s.heap.objs.size := by obtain ⟨_, e, _⟩ := hl; exact Heap.lt_size e
  refine wpAny_pyIter_tuple hl (h _ rfl ⟨⟨_, Heap.get?_push_size _ rfl, rfl, rfl⟩, hl.push _⟩ (fun b hb => ?_) (Nat.ne_of_lt hlt))
  show b < (s.heap.push _).objs.size
  rw [Heap.size_push]
  rcases List.mem_cons.mp hb with rfl | hb
  · exact Nat.lt_succ_self _
  · rcases List.mem_cons.mp hb with rfl | hb
    · exact Nat.lt_succ_of_lt hlt
    · cases hb
theorem old_keptT {h' : Heap} (hk : ∀ b o, b ∉ [s.heap.objs.size] → (s.heap.push { cls := .type "tuple_iterator", data := .fields #[.ref l, .int 0 0] }).get? b = some o → h'.get? b = some o) :
    ∀ b o, s.heap.get? b = some o → h'.get? b = some o := fun b o e => by
  refine hk b o (fun hm => ?_) (Heap.get?_push_of_some _ e)
  rcases List.mem_cons.mp hm with e1 | hm
  · exact absurd (e1 ▸ Heap.lt_size e) (Nat.lt_irrefl _)
  · cases hm
theorem min_intTup {Q : Value → Shared → Prop} (hh : A.handled = none) (hl : s.heap.IsTuple l (intItems xs)) (hne : 0 < xs.size)
    (h : ∀ v h' tk, (intItems xs)[argBest (fun i j => decide (numAt xs i < numAt xs j)) (xs.size - 1)]? = some v → (∀ b o, s.heap.get? b = some o → h'.get? b = some o) → Q v { s with heap := h', toks := tk }) :
    wpAny (model prog w) A (call (.builtin "min") [.ref l]) Q E s := by
  refine call_min_walk (iter_intTup hl fun s₂ e st hfp hlI => ?_)
  subst e
  refine ⟨_, _, _, _, _, _, _, rfl, Walks.tuple (A := A.in1) hh _ l hlI (intItems xs), st, hfp, by simpa [intItems] using hne, CmpOf.ints_lt (numAt xs) (fun _ _ => intItems_at), fun v h' tk hP hk => ?_⟩
  exact h v h' tk (by simpa [intItems] using hP) (old_keptT hk)
theorem min_rawT {its : List Value} {ns : List Int} {Q : Value → Shared → Prop} (hh : A.handled = none) (hl : s.heap.IsTuple l its.toArray) (hi : IntsAre its ns) (hne : 0 < ns.length)
    (h : ∀ h' tk M t', (∀ b o, s.heap.get? b = some o → h'.get? b = some o) → M ∈ ns → (∀ a, a ∈ ns → M ≤ a) → Q (.int M t') { s with heap := h', toks := tk }) : wpAny (model prog w) A (call (.builtin "min") [.ref l]) Q E s := by
  obtain ⟨xs, e⟩ := hi.allInts.items
  have hn : numsOf (intItems xs).toList = ns := by rw [← e]; exact hi.numsOf
  rw [nums_intItems] at hn
  subst hn
  rw [e] at hl
  have hsz : 0 < xs.size := by simpa using hne
  refine min_intTup hh hl hsz fun v h' tk hv hk => ?_
  obtain ⟨t, rfl⟩ := intItems_at hv
  obtain ⟨h1, h2⟩ := argBest_lt (numAt xs) (xs.size - 1)
  refine h h' tk _ t hk ?_ fun a ha => ?_
  · rw [numAt_eq]; exact PySem.getD_mem (by rw [List.length_map, Array.length_toList]; omega)
  · obtain ⟨j, hj, rfl⟩ := mem_getD ha
    rw [List.length_map, Array.length_toList] at hj
    rw [← numAt_eq]; exact h2 j (by omega)
end
section
variable {X : Cx}
def rMinS (K : PySem.W.Frag) : List V → Hp → VK → Prop := fun vs H Q => ∃ (a : Addr) (ns : List Int), vs = [V.ref a] ∧ (SqL K H a (ns.map V.int) ∨ SqT K H a (ns.map V.int)) ∧ 0 < ns.length ∧ ∀ m, m ∈ ns → (∀ y, y ∈ ns → m ≤ y) → Q (.int m) H
theorem cr_minS (hc : X.calm = true) : CallR X (.builtin "min") (rMinS X.K) := by
  intro pins s σ H vs us Q I r h
  obtain ⟨a, ns, e, hs | hs, hne, q⟩ := h
  · exact cr_min hc pins s σ H vs us Q I r ⟨a, ns, e, hs, hne, q⟩
  · subst e
    obtain ⟨its, rv, hl, _⟩ := I.tuple hs
    rw [Vals.ref1 r]
    exact min_rawT (I.ok.hd hc) (show s.heap.IsTuple a its.toArray from hl) rv.ints hne fun h' tk m t' hk h1 h2 => ⟨.int _, H, I.kept hk, ⟨_, rfl⟩, q m h1 h2⟩
theorem kminS (K : PySem.W.Frag) (hc : X.calm = true) (h : X.K = K := by rfl) : CallR X (.builtin "min") (rMinS K) := by subst h; exact cr_minS hc
end
end L2.U


set_option Elab.async false
set_option linter.all false
set_option maxRecDepth 100000
set_option maxHeartbeats 4000000
namespace HT
open PySem PySem.Spec PyProof.Rows
variable {prog : Program} {w : World} {A : Around} {E : Value → Shared → Prop} {s : Shared}
theorem adjust_rev (n : Nat) : Builtin.Slice.sliceAdjust none none (-1) (n : Int) = ((n : Int) - 1, -1) := by
  unfold Builtin.Slice.sliceAdjust
  simp
theorem places_rev (n : Nat) : Builtin.Slice.slicePlaces ((n : Int) - 1) (-1) (-1) = n := by
  unfold Builtin.Slice.slicePlaces
  have h1 : ¬ ((-1 : Int) > 0) := by omega
  simp only [h1, if_false]
  rw [show (- (-1 : Int)) = 1 from rfl]
  simp only [Int.ediv_one]
  split <;> omega
theorem fm_congr {α β : Type} {f g : α → Option β} : ∀ (l : List α), (∀ a ∈ l, f a = g a) → l.filterMap f = l.filterMap g
  | [], _ => rfl
  | a :: r, h => by
    rw [List.filterMap_cons, List.filterMap_cons, h a (by simp), fm_congr r fun b hb => h b (List.mem_cons_of_mem _ hb)]
theorem pick_rev (xs : Array Value) : ((List.range xs.size).filterMap fun (m : Nat) => xs[(((xs.size : Nat) : Int) - 1 + (m : Int) * (-1)).toNat]?).toArray = xs.toList.reverse.toArray := by
  congr 1
  apply List.ext_getElem?
  intro i
  have e : (List.range xs.size).filterMap (fun (m : Nat) => xs[(((xs.size : Nat) : Int) - 1 + (m : Int) * (-1)).toNat]?) = (List.range xs.size).filterMap (fun m => xs.toList.reverse[m]?) := by
    apply fm_congr
    intro m hm
    have hm' := List.mem_range.mp hm
    rw [List.getElem?_reverse (by rw [Array.length_toList]; exact hm'), Array.length_toList, Array.getElem?_toList]
    congr 1
    omega
  rw [e]
  have all : (List.range xs.toList.reverse.length).filterMap (fun m => xs.toList.reverse[m]?) = xs.toList.reverse := by
    generalize xs.toList.reverse = l
    induction l with
    | nil => rfl
    | cons a r ih =>
      rw [List.length_cons, List.range_succ_eq_map, List.filterMap_cons]
      show a :: _ = _
      rw [List.filterMap_map]
      exact congrArg (a :: ·) ih
  rw [List.length_reverse, Array.length_toList] at all
  rw [all]
theorem sliceApplied_rev {sl : Addr} {vs : Value} {n : Nat} {Q : Int × Int × Nat → Shared → Prop} (hs : s.heap.IsSliceOf sl .none .none vs) (ps : IsPart vs (some (-1)))
    (h : Q ((n : Int) - 1, -1, n) s) : wpAny (model prog w) A (Builtin.Slice.sliceApplied (.ref sl) (pure (n : Int))) Q E s := by
  obtain ⟨os, hos, hcs, hds⟩ := id hs
  unfold Builtin.Slice.sliceApplied Builtin.Slice.sliceFields
  refine wpAny_bind (wpAny_bind (wpAny_field hos hds (x := .none) rfl (wpAny_bind (wpAny_field hos hds (x := .none) rfl (wpAny_bind (wpAny_field hos hds (x := vs) rfl (wpAny_pure ?_)))))))
  refine wpAny_bind (slicePart_ ps ?_)
  show wpAny _ _ (if ((-1 : Int) == 0) = true then _ else _) _ _ s
  rw [if_neg (by decide)]
  refine wpAny_bind (slicePart_none (wpAny_bind (slicePart_none (wpAny_bind (wpAny_pure ?_)))))
  show wpAny _ _ (match Builtin.Slice.sliceAdjust none none (-1) (n : Int) with | (lo, hi) => pure (lo, (-1 : Int), Builtin.Slice.slicePlaces lo hi (-1))) _ _ s
  rw [adjust_rev]
  show wpAny _ _ (pure ((n : Int) - 1, (-1 : Int), Builtin.Slice.slicePlaces ((n : Int) - 1) (-1) (-1))) _ _ s
  rw [places_rev]
  exact wpAny_pure h
theorem getItem_tuple_rev {t sl : Addr} {items : Array Value} {vs : Value} {Q : Value → Shared → Prop} (ht : IsTup s.heap t items) (hs : s.heap.IsSliceOf sl .none .none vs) (ps : IsPart vs (some (-1)))
    (h : Q (.ref s.heap.objs.size) { s with heap := s.heap.push { cls := .type "tuple", data := .seq items.toList.reverse.toArray } })
    (hsz : items.size ≤ sizeLine) : wpAny (model prog w) A (getItem (.ref t) (.ref sl)) Q E s := by
  have htake : sizeOk (.seq items.toList.reverse.toArray) := by
    show items.toList.reverse.toArray.size ≤ sizeLine
    rw [List.size_toArray, List.length_reverse, Array.length_toList]
    exact hsz
  obtain ⟨os, hos, hcs, hds⟩ := id hs
  have hTs : s.TypeIs (.ref sl) "slice" := ⟨os, hos, hcs⟩
  unfold getItem
  try with_reducible refine wpAny_holding ?_
  first | refine wpAny_bind (wpAny_pure ?_) | skip
  refine wpAny_bind (wpAny_sequenceKey ht.typeIs (by decide) ?_)
  refine wpAny_bind (wpAny_callSpecial?_slot (name := Str.ofString "__getitem__") ht.typeIs PyProof.Rows.slot_tuple_getitem
    (wpAny_call_entry PyProof.Rows.slot_tuple_getitem ht.typeIs entry_tuple_getitem ?_ (args_tuple_getitem _ _)))
  show wpAny _ _ (Builtin.Tuple.tupleItemsOf (.ref t) >>= _) _ _ s
  refine wpAny_bind (tupleItemsOf_ ht ?_)
  refine wpAny_bind (wpAny_typeOf hTs ?_)
  rw [if_pos (by decide)]
  refine wpAny_bind (sliceApplied_rev hs ps ?_)
  have hno : ¬ ((((items.size : Nat) : Int) - 1 == 0 && (-1 : Int) == 1 && items.size == items.size) = true) := by
    intro q
    rw [Bool.and_eq_true, Bool.and_eq_true] at q
    exact absurd q.1.2 (by decide)
  show wpAny _ _ (if (((items.size : Nat) : Int) - 1 == 0 && (-1 : Int) == 1 && items.size == items.size) = true then _ else _) _ _ s
  rw [if_neg hno, pick_rev]
  first
    | exact wpAny_bind (m := Builtin.Tuple.tupleExact _) (wpAny_newObj_type (wpAny_pure ⟨_, rfl, wpAny_pure h⟩) htake)
    | exact wpAny_bind (m := Builtin.Tuple.tupleExact _) (wpAny_newObj_type (wpAny_bind (wpAny_pure (wpAny_pure ⟨_, rfl, wpAny_pure h⟩))) htake)
    | exact wpAny_bind (wpAny_bind (m := Builtin.Tuple.tupleExact _) (wpAny_newObj_type (wpAny_pure (wpAny_pure ⟨_, rfl, wpAny_pure h⟩)) htake))
    | exact wpAny_bind (wpAny_bind (m := Builtin.Tuple.tupleExact _) (wpAny_newObj_type (wpAny_pure ⟨_, rfl, wpAny_pure h⟩) htake))
end HT
namespace L2
open PySem PySem.Spec PyProof.Rows
section
variable {X : Cx}
/-- xs[::-1], of a list or a tuple -/
def tRevS (K : PySem.W.Frag) (te : TE) : TE := fun σ H Q => te σ H fun x H1 => ∃ a xs, x = .ref a ∧ ((SqL K H1 a xs ∧ ∀ p, H1 p = none → Q (.ref p) (upd H1 p (.lst xs.reverse))) ∨ (SqT K H1 a xs ∧ ∀ p, H1 p = none → Q (.ref p) (upd H1 p (.tup xs.reverse))))
theorem pe_revS {e : Expr} {te : TE} {k : Nat} {p1 p2 p3 pos : Pos} (he : PE X e te) : PE X (.Subscript e (.Slice none none (some (.UnaryOp .USub (.Constant (.int 1) k p1) p2)) p3) pos) (tRevS X.K te) := by
  refine ⟨fun pins s σ H Q I h => ?_⟩
  refine Subscript_ (thn (he.run pins s σ H _ I h) fun v s1 ⟨x, H1, I1, r1, q1⟩ => ?_)
  obtain ⟨a, xs, ex, hx⟩ := q1
  subst ex
  cases r1
  have hst : PO X (some (.UnaryOp .USub (.Constant (.int 1) k p1) p2)) (tPart (tUn (rU fun i => .int (-i)) (tC (.int 1)))) := po_some (pe_un un_neg pe_int)
  refine wpAny_Slice (thn (po_none.run pins s1 σ H1 (fun o H2 => o = none ∧ H2 = H1) I1 ⟨rfl, rfl⟩) fun vl s2 ⟨l, H2, I2, pl, el, e2⟩ => ?_)
  subst el e2
  refine thn (po_none.run pins s2 σ H2 (fun o H3 => o = none ∧ H3 = H2) I2 ⟨rfl, rfl⟩) fun vu s3 ⟨u, H3, I3, pu, eu, e3⟩ => ?_
  subst eu e3
  refine thn (hst.run pins s3 σ H3 (fun o H4 => o = some (-1) ∧ H4 = H3) I3 ⟨1, rfl, -1, rfl, rfl, rfl⟩) fun vs s4 ⟨o, H4, I4, ps, eo, e4⟩ => ?_
  subst eo e4
  have I5 : Inv X pins σ H4 { s4 with heap := s4.heap.push { cls := .type "slice", data := .fields #[vl, vu, vs] } } := I4.kept (t' := s4.toks) fun b ob q => Heap.get?_push_of_some _ q
  show wpAny (model X.prog X.w) X.A (subscriptTail e (.Slice none none (some (.UnaryOp .USub (.Constant (.int 1) k p1) p2)) p3) (.ref a) (.ref s4.heap.objs.size)) (EP X pins σ Q) X.xe { s4 with heap := s4.heap.push { cls := .type "slice", data := .fields #[vl, vu, vs] } }
  rcases hx with ⟨hx, q⟩ | ⟨hx, q⟩
  · obtain ⟨its, r, ht, hz⟩ := I5.list hx
    have hlen := r.length
    refine tail_any (ops := [.ref a, .ref s4.heap.objs.size]) ht.isList.typeIs (PySem.slot_list_getitem.lookup) ?_ (by with_unfolding_all rfl)
    refine wpAny_getItem_list_slice ht.isList (Heap.IsSliceOf.new _ vl vu vs) pl pu ps (by decide) ?_ (by rw [List.size_toArray]; omega)
    rw [PySem.W.krv_pick]
    refine ⟨.ref _, _, I5.laid (t' := s4.toks) (o := .lst xs.reverse) (fun b ob q => Heap.get?_push_of_some _ q) (Nat.le_refl _) ?_, rfl, q _ (I5.hok.fresh (Nat.le_refl _))⟩
    exact ⟨by rw [List.length_reverse]; exact hz, _, 0, r.reverse, Heap.get?_push_size _ rfl⟩
  · obtain ⟨its, r, ht, hz⟩ := I5.tuple hx
    have hlen := r.length
    cases pl
    cases pu
    refine tail_any (ops := [.ref a, .ref s4.heap.objs.size]) ht.typeIs (PyProof.Rows.slot_tuple_getitem.lookup) ?_ (by with_unfolding_all rfl)
    refine HT.getItem_tuple_rev ht (Heap.IsSliceOf.new _ .none .none vs) ps ?_ (by rw [List.size_toArray]; omega)
    refine ⟨.ref _, _, I5.laid (t' := s4.toks) (o := .tup xs.reverse) (fun b ob q => Heap.get?_push_of_some _ q) (Nat.le_refl _) ?_, rfl, q _ (I5.hok.fresh (Nat.le_refl _))⟩
    exact ⟨by rw [List.length_reverse]; exact hz, _, r.reverse, IsTup.new _ _⟩
end
end L2


set_option Elab.async false
set_option linter.all false
set_option maxRecDepth 100000
set_option maxHeartbeats 4000000
namespace L2.U
open PySem PySem.Spec PyProof.Rows Evl
def top (i : Nat) : Stmt := PySem.Challenge.pw_upforgood_k16_stairs_both_ways.main.body.getD i (.Pass ⟨0, 0, 0, 0⟩)
abbrev s_is_integer : Stmt := top 3
theorem sc_is_integer : FnScope ["value"] ["value"] (defScope s_is_integer) := ⟨rfl, rfl, rfl, by decide +kernel, rfl, by decide +kernel, by decide +kernel⟩
abbrev s_is_between : Stmt := top 4
theorem sc_is_between : FnScope ["value", "low", "high"] ["value", "low", "high"] (defScope s_is_between) := ⟨rfl, rfl, rfl, by decide +kernel, rfl, by decide +kernel, by decide +kernel⟩
abbrev s_is_from : Stmt := top 5
theorem sc_is_from : FnScope ["value", "low"] ["value", "low"] (defScope s_is_from) := ⟨rfl, rfl, rfl, by decide +kernel, rfl, by decide +kernel, by decide +kernel⟩
abbrev s_is_list : Stmt := top 6
theorem sc_is_list : FnScope ["value"] ["value"] (defScope s_is_list) := ⟨rfl, rfl, rfl, by decide +kernel, rfl, by decide +kernel, by decide +kernel⟩
abbrev s_are_from : Stmt := top 8
theorem sc_are_from : FnScope ["values", "low", "value"] ["values", "low"] (defScope s_are_from) := ⟨rfl, rfl, rfl, by decide +kernel, rfl, by decide +kernel, by decide +kernel⟩
abbrev s_law_cell : Stmt := top 51
theorem sc_law_cell : FnScope ["script", "k"] ["script", "k"] (defScope s_law_cell) := ⟨rfl, rfl, rfl, by decide +kernel, rfl, by decide +kernel, by decide +kernel⟩
abbrev s_law_box : Stmt := top 52
theorem sc_law_box : FnScope ["great"] ["great"] (defScope s_law_box) := ⟨rfl, rfl, rfl, by decide +kernel, rfl, by decide +kernel, by decide +kernel⟩
abbrev s_law_take : Stmt := top 53
theorem sc_law_take : FnScope ["box", "many", "digit", "mixed"] ["box", "many"] (defScope s_law_take) := ⟨rfl, rfl, rfl, by decide +kernel, rfl, by decide +kernel, by decide +kernel⟩
abbrev s_law_same : Stmt := top 54
theorem sc_law_same : FnScope ["told", "due", "k"] ["told", "due"] (defScope s_law_same) := ⟨rfl, rfl, rfl, by decide +kernel, rfl, by decide +kernel, by decide +kernel⟩
structure TA1 (K : PySem.W.Frag) (mg : Str → Option Value) where
  is_integer : DefAt K mg "is_integer" s_is_integer ["value"]
  is_between : DefAt K mg "is_between" s_is_between ["value", "low", "high"]
  is_from : DefAt K mg "is_from" s_is_from ["value", "low"]
  is_list : DefAt K mg "is_list" s_is_list ["value"]
  are_from : DefAt K mg "are_from" s_are_from ["values", "low"]
  law_cell : DefAt K mg "_law_cell" s_law_cell ["script", "k"]
  law_box : DefAt K mg "_law_box" s_law_box ["great"]
  law_take : DefAt K mg "_law_take" s_law_take ["box", "many"]
  law_same : DefAt K mg "_law_same" s_law_same ["told", "due"]
  z_int : mg "int" = none
  z_bool : mg "bool" = none
  z_str : mg "str" = none
  z_list : mg "list" = none
  z_tuple : mg "tuple" = none
  z_len : mg "len" = none
  z_sum : mg "sum" = none
  z_abs : mg "abs" = none
  z_all : mg "all" = none
  z_range : mg "range" = none
  z_isinstance : mg "isinstance" = none
section
variable {P : Program} {w : World} {K : PySem.W.Frag} {mg : Str → Option Value} {base : Heap}
def isI : V → Bool
  | .int _ => true
  | _ => false
/-- a value of one of the kinds of data -/
def Dat (K : PySem.W.Frag) (H : Hp) (x : V) : Prop := ∃ t, t ∈ ["NoneType", "bool", "int", "str", "list", "tuple", "dict"] ∧ TyX K H x (.type t) ∧ isI x = decide (t = "int")
theorem Dat.int {H : Hp} {i : Int} : Dat K H (.int i) := ⟨"int", by decide, .base (.int i), rfl⟩
theorem Dat.ex {H H' : Hp} {x : V} (e : Ex H H') (h : Dat K H x) : Dat K H' x := by
  obtain ⟨t, ht, ty, hi⟩ := h
  refine ⟨t, ht, ?_, hi⟩
  cases ty with
  | base b =>
    refine .base ?_
    cases b with
    | non => exact .non
    | bl x => exact .bl x
    | int i => exact .int i
    | str z => exact .str z
    | flt z => exact .flt z
    | lst h => exact .lst (e _ _ h)
    | frz h => exact .frz (e _ _ h)
    | tup h => exact .tup (e _ _ h)
    | dK h => exact .dK (e _ _ h)
    | dT h => exact .dT (e _ _ h)
  | byt b => exact .byt b
  | set h => exact .set (e _ _ h)
  | kList a b => exact .kList a b
  | kTuple a b => exact .kTuple a b
  | kDict a b => exact .kDict a b
  | fTuple h => exact .fTuple (e _ _ h)
  | fDict h => exact .fDict (e _ _ h)
def spIsInteger (K : PySem.W.Frag) : Sp := fun vs H Q _ => ∃ x, vs = [x] ∧ Dat K H x ∧ Q (.bl (isI x)) H
theorem ok_is_integer (T : TA1 K mg) : FnOk P w K mg base CX0 1 T.is_integer.a T.is_integer.fd ["value"] (spIsInteger K) := by
  refine T.is_integer.F.ok sc_is_integer (fun vs H Q E h => ?_) (fun cdv A outer s H vs Q E hr h => ?_)
  · obtain ⟨x, rfl, _⟩ := h; rfl
  obtain ⟨x, rfl, ⟨t, ht, ty, hi⟩, q⟩ := h
  refine ⟨_, (pss_one (ps_ret (pe_and (pe_callB (kisi K) (by rfl) T.z_isinstance (by decide +kernel) (pa_cons (pv 0) (pa_cons (pe_bltn (v := .ty "int") rfl T.z_int (by decide +kernel) rfl) pa_nil))) (pe_one (pe_not (pe_callB (kisi K) (by rfl) T.z_isinstance (by decide +kernel) (pa_cons (pv 0) (pa_cons (pe_bltn (v := .ty "bool") rfl T.z_bool (by decide +kernel) rfl) pa_nil)))))))), ?_⟩
  simp only [List.mem_cons, List.not_mem_nil, or_false] at ht
  rcases ht with rfl | rfl | rfl | rfl | rfl | rfl | rfl
  · refine ⟨_, rfl, _, _, _, _, _, rfl, .ty "int", ty, kit_ty (r := false) (by decide +kernel), false, rfl, iteF ?_⟩
    rw [hi] at q; exact q
  · refine ⟨_, rfl, _, _, _, _, _, rfl, .ty "int", ty, kit_ty (r := true) (by decide +kernel), true, rfl, iteT ?_⟩
    refine ⟨_, rfl, _, _, _, _, _, rfl, .ty "bool", ty, kit_ty (r := true) (by decide +kernel), true, rfl, ?_⟩
    rw [hi] at q; exact q
  · refine ⟨_, rfl, _, _, _, _, _, rfl, .ty "int", ty, kit_ty (r := true) (by decide +kernel), true, rfl, iteT ?_⟩
    refine ⟨_, rfl, _, _, _, _, _, rfl, .ty "bool", ty, kit_ty (r := false) (by decide +kernel), false, rfl, ?_⟩
    rw [hi] at q; exact q
  all_goals
    refine ⟨_, rfl, _, _, _, _, _, rfl, .ty "int", ty, kit_ty (r := false) (by decide +kernel), false, rfl, iteF ?_⟩
    rw [hi] at q; exact q
def spIsFrom (K : PySem.W.Frag) : Sp := fun vs H Q _ => ∃ (x : V) (lo : Int), vs = [x, .int lo] ∧ Dat K H x ∧ ∀ b, (∀ i, x = .int i → b = decide (lo ≤ i)) → (isI x = false → b = false) → Q (.bl b) H
theorem isI_int {x : V} (h : isI x = true) : ∃ i, x = .int i := by
  cases x <;> first | exact ⟨_, rfl⟩ | cases h
theorem ok_is_from (T : TA1 K mg) : FnOk P w K mg base CX0 2 T.is_from.a T.is_from.fd ["value", "low"] (spIsFrom K) := by
  refine T.is_from.F.ok sc_is_from (fun vs H Q E h => ?_) (fun cdv A outer s H vs Q E hr h => ?_)
  · obtain ⟨x, lo, rfl, _⟩ := h; rfl
  obtain ⟨x, lo, rfl, hd, q⟩ := h
  refine ⟨_, (pss_one (ps_ret (pe_and (pe_call (ok_is_integer T) (hr.mono (by decide)) rfl T.is_integer.m T.is_integer.F.kp T.is_integer.b .nil pass0 (pa_cons (pv 0) pa_nil)) (pe_one (pe_cmpR op_le (pv 1) (pv 0) (nomark _)))))), ?_⟩
  refine ⟨_, rfl, _, rfl, hd, isI x, rfl, ?_⟩
  cases hx : isI x with
  | false => exact q false (fun i e => by rw [e] at hx; cases hx) (fun _ => rfl)
  | true =>
    obtain ⟨i, rfl⟩ := isI_int hx
    refine ⟨_, rfl, _, rfl, _, _, rfl, rfl, q _ (fun j e => by cases e; rfl) (fun e => by cases e)⟩
def spIsBetween (K : PySem.W.Frag) : Sp := fun vs H Q _ => ∃ (x : V) (lo hi : Int), vs = [x, .int lo, .int hi] ∧ Dat K H x ∧ ∀ b, (∀ i, x = .int i → b = decide (lo ≤ i ∧ i ≤ hi)) → (isI x = false → b = false) → Q (.bl b) H
theorem ok_is_between (T : TA1 K mg) : FnOk P w K mg base CX0 2 T.is_between.a T.is_between.fd ["value", "low", "high"] (spIsBetween K) := by
  refine T.is_between.F.ok sc_is_between (fun vs H Q E h => ?_) (fun cdv A outer s H vs Q E hr h => ?_)
  · obtain ⟨x, lo, hi, rfl, _⟩ := h; rfl
  obtain ⟨x, lo, hi, rfl, hd, q⟩ := h
  refine ⟨_, (pss_one (ps_ret (pe_and (pe_call (ok_is_integer T) (hr.mono (by decide)) rfl T.is_integer.m T.is_integer.F.kp T.is_integer.b .nil pass0 (pa_cons (pv 0) pa_nil)) (pe_one (pe_chain op_le op_le (pv 1) (pv 0) (pv 2)))))), ?_⟩
  refine ⟨_, rfl, _, rfl, hd, isI x, rfl, ?_⟩
  cases hx : isI x with
  | false => exact q false (fun i e => by rw [e] at hx; cases hx) (fun _ => rfl)
  | true =>
    obtain ⟨i, rfl⟩ := isI_int hx
    refine ⟨_, rfl, _, rfl, _, _, rfl, rfl, _, rfl, ite2 (fun c => ?_) (fun c => ?_)⟩
    · refine ⟨_, rfl, _, _, rfl, rfl, q _ (fun j e => ?_) (fun e => by cases e)⟩
      cases e
      have c' := of_decide_eq_true c
      simp [c']
    · refine q _ (fun j e => ?_) (fun e => by cases e)
      cases e
      have c' := of_decide_eq_false (Bool.eq_false_iff.mpr c)
      simp [c']
/-! ### data: what a value holds -/
inductive Rd (K : PySem.W.Frag) (ok : Addr → Prop) (H : Hp) : Nat → V → PyData → Prop
  | non {n} : Rd K ok H n .non .none
  | bl {n} (b : Bool) : Rd K ok H n (.bl b) (.bool b)
  | int {n} (i : Int) : Rd K ok H n (.int i) (.int i)
  | str {n} (z : Str) (h : z.length ≤ 1000) (h2 : PyData.strOk z = true) : Rd K ok H n (.str z) (.str z)
  | lst {n} {a : Addr} {xs : List V} {ds : List PyData} (h : H a = some (.lst xs)) (ha : ok a) (hl : xs.length = ds.length) (hz : xs.length ≤ 900)
      (all : ∀ (i : Nat) (x : V) (d : PyData), xs[i]? = some x → ds[i]? = some d → Rd K ok H n x d) : Rd K ok H (n + 1) (.ref a) (.list ds)
  | tup {n} {a : Addr} {xs : List V} {ds : List PyData} (h : SqT K H a xs) (ha : ok a) (hl : xs.length = ds.length) (hz : xs.length ≤ 900)
      (all : ∀ (i : Nat) (x : V) (d : PyData), xs[i]? = some x → ds[i]? = some d → Rd K ok H n x d) : Rd K ok H (n + 1) (.ref a) (.tuple ds)
def RdL (K : PySem.W.Frag) (ok : Addr → Prop) (H : Hp) (n : Nat) (xs : List V) (ds : List PyData) : Prop :=
  xs.length = ds.length ∧ ∀ (i : Nat) (x : V) (d : PyData), xs[i]? = some x → ds[i]? = some d → Rd K ok H n x d
section
variable {ok : Addr → Prop} {H H' : Hp} {n : Nat} {x y : V} {d : PyData}
theorem Rd.keep (kl : ∀ a xs, ok a → H a = some (.lst xs) → H' a = some (.lst xs)) (kt : ∀ a xs, ok a → SqT K H a xs → SqT K H' a xs) (h : Rd K ok H n x d) : Rd K ok H' n x d := by
  induction h with
  | non => exact .non
  | bl b => exact .bl b
  | int i => exact .int i
  | str z h h2 => exact .str z h h2
  | lst h1 ha hl hz _ ih => exact .lst (kl _ _ ha h1) ha hl hz ih
  | tup h1 ha hl hz _ ih => exact .tup (kt _ _ ha h1) ha hl hz ih
theorem Rd.ex (e : Ex H H') (h : Rd K ok H n x d) : Rd K ok H' n x d := h.keep (fun _ _ _ => e _ _) (fun _ _ _ => ex_t e)
theorem Rd.but {b : Addr} (k : But b H H') (hb : ∀ a, ok a → a ≠ b) (h : Rd K ok H n x d) : Rd K ok H' n x d :=
  h.keep (fun _ _ ha hs => k _ _ (hb _ ha) hs) (fun _ _ ha hs => k.sqt (hb _ ha) hs)
theorem Rd.of {ok' : Addr → Prop} (w : ∀ a, ok a → ok' a) (h : Rd K ok H n x d) : Rd K ok' H n x d := by
  induction h with
  | non => exact .non
  | bl b => exact .bl b
  | int i => exact .int i
  | str z h h2 => exact .str z h h2
  | lst h1 ha hl hz _ ih => exact .lst h1 (w _ ha) hl hz ih
  | tup h1 ha hl hz _ ih => exact .tup h1 (w _ ha) hl hz ih
theorem Rd.succ (h : Rd K ok H n x d) : Rd K ok H (n + 1) x d := by
  induction h with
  | non => exact .non
  | bl b => exact .bl b
  | int i => exact .int i
  | str z h h2 => exact .str z h h2
  | lst h1 ha hl hz _ ih => exact .lst h1 ha hl hz ih
  | tup h1 ha hl hz _ ih => exact .tup h1 ha hl hz ih
theorem Rd.le {m : Nat} (h : Rd K ok H n x d) (l : n ≤ m) : Rd K ok H m x d := by
  induction l with
  | refl => exact h
  | step _ ih => exact ih.succ
theorem RdL.ex {xs : List V} {ds : List PyData} (e : Ex H H') (h : RdL K ok H n xs ds) : RdL K ok H' n xs ds := ⟨h.1, fun i x d hx hd => (h.2 i x d hx hd).ex e⟩
theorem RdL.but {b : Addr} {xs : List V} {ds : List PyData} (k : But b H H') (hb : ∀ a, ok a → a ≠ b) (h : RdL K ok H n xs ds) : RdL K ok H' n xs ds := ⟨h.1, fun i x d hx hd => (h.2 i x d hx hd).but k hb⟩
theorem Rd.sm (h : Rd K ok H n x d) : ∀ {ok' : Addr → Prop} {y : V}, Rd K ok' H n y d → Sm K H n x y := by
  induction h with
  | non => intro ok' y h2; cases h2; exact .non
  | bl b => intro ok' y h2; cases h2; exact .bl b
  | int i => intro ok' y h2; cases h2; exact .int i
  | str z h h3 => intro ok' y h2; cases h2; exact .str z h
  | lst h1 ha hl hz all ih =>
    intro ok' y h2
    cases h2 with
    | lst h1' ha' hl' hz' all' =>
      refine .lst (SqL.of h1) (SqL.of h1') (by omega) (by omega) fun i x y hx hy => ?_
      have hi := (List.getElem?_eq_some_iff.mp hx).1
      exact ih i x _ hx (List.getElem?_eq_getElem (by omega)) (all' i y _ hy (List.getElem?_eq_getElem (by omega)))
  | tup h1 ha hl hz all ih =>
    intro ok' y h2
    cases h2 with
    | tup h1' ha' hl' hz' all' =>
      refine .tup h1 h1' (by omega) (by omega) fun i x y hx hy => ?_
      have hi := (List.getElem?_eq_some_iff.mp hx).1
      exact ih i x _ hx (List.getElem?_eq_getElem (by omega)) (all' i y _ hy (List.getElem?_eq_getElem (by omega)))
theorem dpAll_of {xs : List V} : ∀ {ds : List PyData}, xs.length = ds.length → (∀ (i : Nat) (x : V) (d : PyData), xs[i]? = some x → ds[i]? = some d → Dp K H x d) → DpAll K H xs ds := by
  induction xs with
  | nil => intro ds hl _; cases ds with
    | nil => exact .nil
    | cons d r => cases hl
  | cons x r ih => intro ds hl h; cases ds with
    | nil => cases hl
    | cons d r2 => exact .cons (h 0 x d rfl rfl) (ih (Nat.succ.inj hl) fun i x d hx hd => h (i + 1) x d hx hd)
theorem Rd.dp (h : Rd K ok H n x d) : Dp K H x d := by
  induction h with
  | non => exact .non
  | bl b => exact .bl b
  | int i => exact .int i
  | str z h h2 => exact .str z
  | lst h1 ha hl hz _ ih => exact .lst (SqL.of h1) (dpAll_of hl ih)
  | tup h1 ha hl hz _ ih => exact .tup h1 (dpAll_of hl ih)
theorem layAll_of : ∀ {ds : List PyData} {n : Nat}, (∀ d ∈ ds, d.canLay0 = true ∧ d.depth ≤ n) → PyData.canLayAll0 ds = true ∧ PyData.depthAll ds ≤ n
  | [], n, _ => by simp [PyData.canLayAll0, PyData.depthAll]
  | d :: r, n, h => by
    have h1 := h d (by simp)
    have h2 := layAll_of (ds := r) (n := n) fun z hz => h z (by simp [hz])
    simp only [PyData.canLayAll0, PyData.depthAll, h1.1, h2.1, Bool.and_self, true_and]
    omega
theorem Rd.lay (h : Rd K ok H n x d) : d.canLay0 = true ∧ d.depth ≤ n := by
  induction h with
  | non => simp [PyData.canLay0, PyData.depth]
  | bl b => simp [PyData.canLay0, PyData.depth]
  | int i => simp [PyData.canLay0, PyData.depth]
  | str z h h2 => simp [PyData.canLay0, PyData.depth, h2]
  | @lst n a xs ds h1 ha hl hz all ih =>
    have := layAll_of (ds := ds) (n := n) fun d hd => by
      obtain ⟨i, hi⟩ := List.mem_iff_getElem?.mp hd
      have hlt := (List.getElem?_eq_some_iff.mp hi).1
      exact ih i _ d (List.getElem?_eq_getElem (by omega)) hi
    simp only [PyData.canLay0, PyData.depth, this.1, true_and]
    omega
  | @tup n a xs ds h1 ha hl hz all ih =>
    have := layAll_of (ds := ds) (n := n) fun d hd => by
      obtain ⟨i, hi⟩ := List.mem_iff_getElem?.mp hd
      have hlt := (List.getElem?_eq_some_iff.mp hi).1
      exact ih i _ d (List.getElem?_eq_getElem (by omega)) hi
    simp only [PyData.canLay0, PyData.depth, this.1, true_and]
    omega
theorem Rd.shaped (h : Rd K ok H n x d) (hn : n ≤ 64) : SeqAt.shaped d = true := by
  have := h.lay
  unfold SeqAt.shaped
  rw [this.1, decide_eq_true (by omega)]
  rfl
theorem Rd.dat (h : Rd K ok H n x d) : Dat K H x := by
  cases h with
  | non => exact ⟨"NoneType", by decide, .base .non, rfl⟩
  | bl b => exact ⟨"bool", by decide, .base (.bl b), rfl⟩
  | int i => exact .int
  | str z h h2 => exact ⟨"str", by decide, .base (.str z), rfl⟩
  | lst h1 => exact ⟨"list", by decide, tyL (SqL.of h1), rfl⟩
  | tup h1 => exact ⟨"tuple", by decide, tyT h1, rfl⟩
end
def fromD (lo : Int) : PyData → Bool
  | .int i => decide (lo ≤ i)
  | _ => false
def betwD (lo hi : Int) : PyData → Bool
  | .int i => decide (lo ≤ i ∧ i ≤ hi)
  | _ => false
def isSeq : PyData → Bool
  | .list _ => true
  | .tuple _ => true
  | _ => false
theorem rd_from {ok : Addr → Prop} {H : Hp} {n : Nat} {x : V} {d : PyData} {lo : Int} {b : Bool} (h : Rd K ok H n x d) (h1 : ∀ i, x = .int i → b = decide (lo ≤ i)) (h2 : isI x = false → b = false) : b = fromD lo d := by
  cases h <;> first | exact h1 _ rfl | exact h2 rfl
theorem rd_betw {ok : Addr → Prop} {H : Hp} {n : Nat} {x : V} {d : PyData} {lo hi : Int} {b : Bool} (h : Rd K ok H n x d) (h1 : ∀ i, x = .int i → b = decide (lo ≤ i ∧ i ≤ hi)) (h2 : isI x = false → b = false) : b = betwD lo hi d := by
  cases h <;> first | exact h1 _ rfl | exact h2 rfl
/-- data, or an empty dict -/
def RdA (K : PySem.W.Frag) (ok : Addr → Prop) (H : Hp) (n : Nat) (x : V) (d : PyData) : Prop := Rd K ok H n x d ∨ ∃ a, x = .ref a ∧ d = .dict [] ∧ ok a ∧ H a = some (.dK [])
section
variable {ok : Addr → Prop} {H H' : Hp} {n : Nat} {x : V} {d : PyData}
theorem RdA.rd (h : RdA K ok H n x d) (s : isSeq d = true) : Rd K ok H n x d := by
  rcases h with h | ⟨a, rfl, rfl, _⟩
  · exact h
  · cases s
theorem RdA.ex (e : Ex H H') (h : RdA K ok H n x d) : RdA K ok H' n x d := by
  rcases h with h | ⟨a, h1, h2, h3, h4⟩
  · exact .inl (h.ex e)
  · exact .inr ⟨a, h1, h2, h3, e _ _ h4⟩
theorem RdA.but {b : Addr} (k : But b H H') (hb : ∀ a, ok a → a ≠ b) (h : RdA K ok H n x d) : RdA K ok H' n x d := by
  rcases h with h | ⟨a, h1, h2, h3, h4⟩
  · exact .inl (h.but k hb)
  · exact .inr ⟨a, h1, h2, h3, k _ _ (hb a h3) h4⟩
theorem RdA.of {ok' : Addr → Prop} (w : ∀ a, ok a → ok' a) (h : RdA K ok H n x d) : RdA K ok' H n x d := by
  rcases h with h | ⟨a, h1, h2, h3, h4⟩
  · exact .inl (h.of w)
  · exact .inr ⟨a, h1, h2, w a h3, h4⟩
theorem RdA.dat (h : RdA K ok H n x d) : Dat K H x := by
  rcases h with h | ⟨a, rfl, rfl, _, h4⟩
  · exact h.dat
  · exact ⟨"dict", by decide, .base (.dK h4), rfl⟩
theorem rda_betw {lo hi : Int} {b : Bool} (h : RdA K ok H n x d) (h1 : ∀ i, x = .int i → b = decide (lo ≤ i ∧ i ≤ hi)) (h2 : isI x = false → b = false) : b = betwD lo hi d := by
  rcases h with h | ⟨a, rfl, rfl, _⟩
  · exact rd_betw h h1 h2
  · exact h2 rfl
theorem RdA.sm {ok' : Addr → Prop} {y : V} (h : RdA K ok H n x d) (h2 : RdA K ok' H n y d) : Sm K H (n + 1) x y := by
  rcases h with h | ⟨a, rfl, rfl, _, h4⟩
  · rcases h2 with h2 | ⟨a, rfl, rfl, _⟩
    · exact (h.sm h2).succ
    · cases h
  · rcases h2 with h2 | ⟨c, rfl, _, _, h5⟩
    · cases h2
    · exact .dct h4 h5
end
def spIsList (K : PySem.W.Frag) : Sp := fun vs H Q _ => ∃ x d n ok, vs = [x] ∧ RdA K ok H n x d ∧ ∀ H', Ex H H' → Q (.bl (isSeq d)) H'
theorem ok_is_list (T : TA1 K mg) : FnOk P w K mg base CX0 1 T.is_list.a T.is_list.fd ["value"] (spIsList K) := by
  refine T.is_list.F.ok sc_is_list (fun vs H Q E h => ?_) (fun cdv A outer s H vs Q E hr h => ?_)
  · obtain ⟨x, d, n, ok, rfl, _⟩ := h; rfl
  obtain ⟨x, d, n, ok, rfl, h, q⟩ := h
  refine ⟨_, (pss_one (ps_ret (pe_callB (kisiT K) (by rfl) T.z_isinstance (by decide +kernel) (pa_cons (pv 0) (pa_cons (pe_tup (pa_cons (pe_bltn (v := .ty "list") rfl T.z_list (by decide +kernel) rfl) (pa_cons (pe_bltn (v := .ty "tuple") rfl T.z_tuple (by decide +kernel) rfl) pa_nil))) pa_nil))))), ?_⟩
  refine ⟨_, rfl, (by show 2 ≤ sizeLine; decide), fun p hp => ?_⟩
  have q1 := q _ (Ex.new (o := .tup [.ty "list", .ty "tuple"]) hp)
  rcases h with h | ⟨a, rfl, rfl, _, hd⟩
  case inr =>
    exact ⟨_, p, [.ty "list", .ty "tuple"], _, [.type "list", .type "tuple"], false, rfl, upd_same, .cons (.ty _) (.cons (.ty _) .nil), .base (.dK ((Ex.new hp) _ _ hd)), rfl, q1⟩
  cases h with
  | non => exact ⟨_, p, [.ty "list", .ty "tuple"], _, [.type "list", .type "tuple"], false, rfl, upd_same, .cons (.ty _) (.cons (.ty _) .nil), .base .non, rfl, q1⟩
  | bl b => exact ⟨_, p, [.ty "list", .ty "tuple"], _, [.type "list", .type "tuple"], false, rfl, upd_same, .cons (.ty _) (.cons (.ty _) .nil), .base (.bl b), rfl, q1⟩
  | int i => exact ⟨_, p, [.ty "list", .ty "tuple"], _, [.type "list", .type "tuple"], false, rfl, upd_same, .cons (.ty _) (.cons (.ty _) .nil), .base (.int i), rfl, q1⟩
  | str z _ _ => exact ⟨_, p, [.ty "list", .ty "tuple"], _, [.type "list", .type "tuple"], false, rfl, upd_same, .cons (.ty _) (.cons (.ty _) .nil), .base (.str z), rfl, q1⟩
  | lst h1 => exact ⟨_, p, [.ty "list", .ty "tuple"], _, [.type "list", .type "tuple"], true, rfl, upd_same, .cons (.ty _) (.cons (.ty _) .nil), tyL (SqL.of ((Ex.new hp) _ _ h1)), rfl, q1⟩
  | tup h1 => exact ⟨_, p, [.ty "list", .ty "tuple"], _, [.type "list", .type "tuple"], true, rfl, upd_same, .cons (.ty _) (.cons (.ty _) .nil), tyT (ex_t (Ex.new hp) h1), rfl, q1⟩
theorem at_get {xs : List V} {k : Int} (h0 : 0 ≤ k) (h : k < (xs.length : Int)) : ∃ v, atI xs k = some v ∧ xs[k.toNat]? = some v := by
  have hk : k.toNat < xs.length := by omega
  refine ⟨xs[k.toNat], ?_, List.getElem?_eq_getElem hk⟩
  exact at_of (by omega) (List.getElem?_eq_getElem hk)
theorem ints_get {ns : List Int} {i : Nat} {v : V} (h : (ns.map V.int)[i]? = some v) : ∃ z, ns[i]? = some z ∧ v = .int z := by
  rw [List.getElem?_map] at h
  cases e : ns[i]? with
  | none => rw [e] at h; cases h
  | some z => rw [e] at h; exact ⟨z, rfl, (Option.some.inj h).symm⟩
theorem cutV_ints (ns : List Int) (lo hi : Option Int) : ∃ ms : List Int, cutV (ns.map V.int) lo hi = ms.map V.int := by
  refine ⟨(ns.drop (HT.sIx (ns.map V.int).length 0 lo)).take (HT.sIx (ns.map V.int).length (ns.map V.int).length hi - HT.sIx (ns.map V.int).length 0 lo), ?_⟩
  unfold cutV
  rw [List.map_take, List.map_drop]
theorem ok_law_cell (T : TA1 K mg) : FnOk P w K mg base CX0 1 T.law_cell.a T.law_cell.fd ["script", "k"] (spCell K) := by
  refine T.law_cell.F.ok sc_law_cell (fun vs H Q E h => ?_) (fun cdv A outer s H vs Q E hr h => ?_)
  · obtain ⟨a, ns, k, rfl, _⟩ := h; rfl
  obtain ⟨a, ns, k, rfl, hS, h0, h1, q⟩ := h
  refine ⟨_, (pss_one (ps_ret (pe_ifExp (pt_cmpR op_lt (pv 1) (pe_callB (klen K) (by rfl) T.z_len (by decide +kernel) (pa_cons (pv 0) pa_nil)) (nomark _)) (pe_ix (kixl K) (pv 0) (pv 1) (fun _ _ => rfl)) (pe_op op_add (pe_op op_mul pe_int (pv 1)) (pe_op op_mod (pe_callTy call_int1 (by rfl) T.z_int (by decide +kernel) (pa_cons (pe_callB (ksum K rfl) (by rfl) T.z_sum (by decide +kernel) (pa_cons (pe_slice (kslL K) (pv 0) po_none (po_some pe_int)) pa_nil)) pa_nil)) pe_int))))), ?_⟩
  refine ⟨_, rfl, _, rfl, _, _, rfl, .inl ⟨_, hS, rfl⟩, _, _, rfl, rfl, _, rfl, ite2 (fun c => ?_) (fun c => ?_)⟩
  · have c' := of_decide_eq_true c
    obtain ⟨v, hv, hg⟩ := at_get h0 c'
    obtain ⟨z, _, rfl⟩ := ints_get hg
    exact ⟨_, rfl, _, rfl, _, _, _, _, rfl, rfl, hS, hv, q _ _ (Ex.refl _)⟩
  · refine ⟨_, rfl, _, _, rfl, rfl, .inl ⟨by decide, by decide⟩, _, rfl, _, rfl, _, _, rfl, hS, fun p hp => ?_⟩
    obtain ⟨ms, em⟩ := cutV_ints ns none (some 1)
    rw [em]
    refine ⟨p, ms, rfl, .inl (SqL.of upd_same), .inl ⟨_, rfl, _, _, rfl, rfl, (show (0 : Int) < 1000033 by decide), _, _, rfl, rfl, q _ _ (Ex.new hp)⟩⟩
theorem ok_law_box (T : TA1 K mg) : FnOk P w K mg base CX0 1 T.law_box.a T.law_box.fd ["great"] spBox := by
  refine T.law_box.F.ok sc_law_box (fun vs H Q E h => ?_) (fun cdv A outer s H vs Q E hr h => ?_)
  · obtain ⟨g, rfl, _⟩ := h; rfl
  obtain ⟨g, rfl, q⟩ := h
  refine ⟨_, (pss_one (ps_ret (pe_lst (pa_cons (pe_callB call_abs (by rfl) T.z_abs (by decide +kernel) (pa_cons (pv 0) pa_nil)) (pa_cons (pe_cmpR op_ge (pe_callB call_abs (by rfl) T.z_abs (by decide +kernel) (pa_cons (pv 0) pa_nil)) (pe_op op_pow pe_int pe_int) (nomark _)) (pa_cons (pe_op op_mod (pe_callTy call_int1 (by rfl) T.z_int (by decide +kernel) (pa_cons (pe_callB call_abs (by rfl) T.z_abs (by decide +kernel) (pa_cons (pv 0) pa_nil)) pa_nil)) pe_int) (pa_cons pe_int pa_nil))))))), ?_⟩
  refine ⟨_, rfl, _, rfl, _, rfl, _, rfl, _, _, rfl, rfl, ⟨by decide, by decide, by decide⟩, _, _, rfl, rfl, _, rfl, _, rfl, .inl ⟨_, rfl, _, _, rfl, rfl, (show (0 : Int) < 2147483629 by decide), (by show 4 ≤ sizeLine; decide), fun p hp => ?_⟩⟩
  refine q p _ hp (Ex.new hp) ⟨_, _, _, _, upd_same, ?_, ?_, ?_, by decide, by decide⟩
  · split <;> omega
  · omega
  · omega
theorem fmod_in {a m : Int} (h : 0 < m) : 0 ≤ a % m ∧ a % m < m := by
  exact ⟨Int.emod_nonneg _ (by omega), Int.emod_lt_of_pos _ h⟩
theorem ok_law_take (T : TA1 K mg) : FnOk P w K mg base CX0 1 T.law_take.a T.law_take.fd ["box", "many"] spTake := by
  refine T.law_take.F.ok sc_law_take (fun vs H Q E h => ?_) (fun cdv A outer s H vs Q E hr h => ?_)
  · obtain ⟨b, m, n, rfl, _⟩ := h; rfl
  obtain ⟨b, m, n, rfl, m0, m1, ⟨d, sd, c, f, hb, d0, s0, s1, c0, c1⟩, q⟩ := h
  have hL := SqL.of (K := K) hb
  refine ⟨_, (pss_cut (ps_if (PW.pt (pw_and (pt_val (pe_ix (kixl K) (pv 0) pe_int (fun _ _ => rfl))) (pw_and1 (pt_cmpR op_gt (pe_ix (kixl K) (pv 0) pe_int (fun _ _ => rfl)) pe_int (nomark _))))) (pss_cons (ps_set (i := 2) sc_law_take.nd rfl (Or.inl rfl) (pe_op op_mod (pe_callTy call_int1 (by rfl) T.z_int (by decide +kernel) (pa_cons (pe_ix (kixl K) (pv 0) pe_int (fun _ _ => rfl)) pa_nil)) (pv 1)))
    (pss_cons (ps_asg (pe_op op_fdiv (pe_ix (kixl K) (pv 0) pe_int (fun _ _ => rfl)) (pv 1)) (pg_sub (pv 0) pe_int set_list))
    (pss_one (ps_ret (pv 2))))) pss_nil)
    (pss_cons (ps_asg (pe_op op_add (pe_ix (kixl K) (pv 0) pe_int (fun _ _ => rfl)) pe_int) (pg_sub (pv 0) pe_int set_list))
    (pss_cons (ps_set (i := 3) sc_law_take.nd rfl (Or.inl rfl) (pe_op op_mod (pe_callTy call_int1 (by rfl) T.z_int (by decide +kernel) (pa_cons (pe_op op_pow (pe_op op_add (pe_op op_add (pe_ix (kixl K) (pv 0) pe_int (fun _ _ => rfl)) (pe_op op_mul pe_int (pe_ix (kixl K) (pv 0) pe_int (fun _ _ => rfl)))) pe_int) pe_int) pa_nil)) pe_int))
    (pss_one (ps_ret (pe_op op_mod (pe_callTy call_int1 (by rfl) T.z_int (by decide +kernel) (pa_cons (pe_op op_fdiv (pe_op op_mod (pe_callTy call_int1 (by rfl) T.z_int (by decide +kernel) (pa_cons (pe_op op_pow (pe_op op_add (pe_op op_mul (pv 3) pe_int) (pe_op op_mul pe_int (pe_ix (kixl K) (pv 0) pe_int (fun _ _ => rfl)))) pe_int) pa_nil)) pe_int) pe_int) pa_nil)) (pv 1))))))), ?_⟩
  have mres : ∀ x : Int, 0 ≤ x % m ∧ x % m < m := fun x => fmod_in m0
  have fm : ∀ {a k : Int}, 0 ≤ a → 0 < k → 0 ≤ a % k ∧ a % k < k := fun _ h => fmod_in h
  refine ⟨fun σ' H' => σ' = [some (.ref b), some (.int m), none, none] ∧ H' = H, ?_, ?_⟩
  · refine ⟨_, rfl, _, _, _, _, rfl, rfl, hL, rfl, f, rfl, ?_⟩
    cases f with
    | false => exact ⟨rfl, rfl⟩
    | true =>
      refine ⟨_, rfl, _, _, _, _, rfl, rfl, hL, rfl, _, _, rfl, rfl, _, rfl, ite2 (fun c => ?_) (fun _ => ⟨rfl, rfl⟩)⟩
      refine ⟨_, rfl, _, _, _, _, rfl, rfl, hL, rfl, .inl ⟨_, rfl, _, rfl, _, _, rfl, rfl, m0, ?_⟩⟩
      refine ⟨_, rfl, _, _, _, _, rfl, rfl, hL, rfl, _, rfl, _, _, rfl, rfl, ⟨by omega, by omega⟩, ?_⟩
      refine ⟨_, rfl, b, _, 0, 0, rfl, rfl, hb, rfl, ?_⟩
      refine ⟨_, rfl, q _ _ (mres _).1 (mres _).2 ⟨_, _, _, _, upd_same, ?_, s0, s1, c0, by omega⟩ But.upd⟩
      exact Int.ediv_nonneg d0 (by omega)
  · rintro σ' H' ⟨rfl, rfl⟩
    refine ⟨_, rfl, _, _, _, _, rfl, rfl, hL, rfl, _, _, rfl, rfl, ?_⟩
    refine ⟨_, rfl, b, _, 3, 3, rfl, rfl, hb, rfl, ?_⟩
    have hb2 : upd H' b (.lst [.int d, .bl f, .int sd, .int (c + 1)]) b = some (.lst [.int d, .bl f, .int sd, .int (c + 1)]) := upd_same
    have hL2 := SqL.of (K := K) hb2
    have r1 := @fmod_in ((sd + 15485863 * (c + 1) + 179424673) ^ (5 : Int).toNat) 2147483647 (by decide)
    refine ⟨_, rfl, _, _, _, _, rfl, rfl, hL2, rfl, ?_⟩
    refine ⟨_, rfl, _, _, _, _, rfl, rfl, hL2, rfl, _, _, rfl, rfl, .inl ⟨by decide, by decide⟩, _, _, rfl, rfl, _, _, rfl, rfl, ?_⟩
    refine ⟨_, _, rfl, rfl, ⟨by decide, by decide, by omega⟩, .inl ⟨_, rfl, _, _, rfl, rfl, (show (0 : Int) < 2147483647 by decide), ?_⟩⟩
    refine ⟨_, rfl, _, _, rfl, rfl, .inr ⟨by decide, by decide⟩, ?_⟩
    refine ⟨_, rfl, _, _, _, _, rfl, rfl, hL2, rfl, _, _, rfl, rfl, .inl ⟨by decide, by decide⟩, _, _, rfl, rfl, ?_⟩
    refine ⟨_, _, rfl, rfl, ⟨by decide, by decide, by omega⟩, .inl ⟨_, rfl, _, _, rfl, rfl, (show (0 : Int) < 2147483587 by decide), ?_⟩⟩
    refine ⟨_, _, rfl, rfl, ⟨by decide, by decide⟩, .inl ⟨_, rfl, _, rfl, _, _, rfl, rfl, m0, ?_⟩⟩
    exact q _ _ (mres _).1 (mres _).2 ⟨_, _, _, _, hb2, d0, s0, s1, by omega, by omega⟩ But.upd
section
variable {X : Cx}
def rLenA (K : PySem.W.Frag) : List V → Hp → VK → Prop := fun xs H Q => rLen K xs H Q ∨ ∃ a kvs, xs = [V.ref a] ∧ H a = some (.dK kvs) ∧ Q (.int (kvs.length : Nat)) H
theorem klenA (K : PySem.W.Frag) (h : X.K = K := by rfl) : CallR X (.builtin "len") (rLenA K) := by
  subst h
  intro pins s σ H vs us Q I r h
  rcases h with h | h
  · exact call_len pins s σ H vs us Q I r h
  · exact call_lenD pins s σ H vs us Q I r h
end
/-! ### the law's own sameness -/
theorem none_left {sp : Sp} {f : Addr} {fd : FuncData} {ps : List Str} (no : ∀ vs H Q E, ¬ sp vs H Q E) : FnOk P w K mg base CX0 0 f fd ps sp :=
  ⟨fun vs H Q E h => absurd h (no vs H Q E), fun A outer s H args us vs Q E _ _ _ _ h => absurd h (no vs H Q E)⟩
theorem isi_at {H : Hp} {x : V} {t u : String} {b : Bool} {Q : VK} (ty : TyX K H x (.type t)) (h : kitB t u = some b) (q : Q (.bl b) H) : rIsi K [x, .ty u] H Q :=
  ⟨x, .ty u, _, _, b, rfl, .ty u, ty, kit_ty h, q⟩
def spS (K : PySem.W.Frag) : Nat → Sp
  | 0 => fun _ _ _ _ => False
  | n + 1 => spSame K n
theorem no_given {n : Nat} {v : Nat → V} : given n (fun _ => false) v = [] := by
  unfold given
  rw [List.filter_eq_nil_iff.mpr (by intro a _; decide)]
  rfl
theorem eq_empty {ta : TE} {σ : L2.St} {H : Hp} {xs : List V} (hx : xs = []) (h : EvL ta σ H xs) : Ev (tOp (rEqD K) ta (tLst tNil)) σ H (.bl true) := by
  subst hx
  exact ev_opLL h (el_lst ea_nil (Nat.zero_le _)) fun p q H1 hp hq _ => rv_val fun H2 e2 Q k =>
    ⟨.list [], .list [], .lst (SqL.of (e2 _ _ hp)) .nil, .lst (SqL.of (e2 _ _ hq)) .nil, rfl, rfl, k⟩
theorem same_step (T : TA1 K mg) (n : Nat) (ih : FnOk P w K mg base CX0 n T.law_same.a T.law_same.fd ["told", "due"] (spS K n)) :
    FnOk P w K mg base CX0 (n + 1) T.law_same.a T.law_same.fd ["told", "due"] (spS K (n + 1)) := by
  refine T.law_same.F.ok sc_law_same (fun vs H Q E h => ?_) (fun cdv A outer s H vs Q E hr h => ?_)
  · obtain ⟨x, y, rfl, _⟩ := h; rfl
  obtain ⟨x, y, rfl, hS, q⟩ := h
  refine ⟨_, (pss_cons (ps_if (PW.pt (pw_or (pt_cmpR op_isN (pv 1) pe_non (nomark _)) (pw_or1 (pt_val (pe_callB (kisi K) (by rfl) T.z_isinstance (by decide +kernel) (pa_cons (pv 1) (pa_cons (pe_bltn (v := .ty "bool") rfl T.z_bool (by decide +kernel) rfl) pa_nil))))))) (pss_one (ps_ret (pe_ifExp (pt_cmpR op_isN (pv 1) pe_non (nomark _)) (pe_cmpR op_isN (pv 0) pe_non (nomark _)) (pe_and (pe_callB (kisi K) (by rfl) T.z_isinstance (by decide +kernel) (pa_cons (pv 0) (pa_cons (pe_bltn (v := .ty "bool") rfl T.z_bool (by decide +kernel) rfl) pa_nil))) (pe_one (pe_cmpR op_eq (pe_cmpR op_is_bl (pv 0) pe_bl (nomark _)) (pe_cmpR op_is_bl (pv 1) pe_bl (nomark _)) (nomark _))))))) pss_nil)
    (pss_cons (ps_if (pt_val (pe_callB (kisi K) (by rfl) T.z_isinstance (by decide +kernel) (pa_cons (pv 1) (pa_cons (pe_bltn (v := .ty "int") rfl T.z_int (by decide +kernel) rfl) pa_nil)))) (pss_one (ps_ret (pe_and (pe_callB (kisi K) (by rfl) T.z_isinstance (by decide +kernel) (pa_cons (pv 0) (pa_cons (pe_bltn (v := .ty "int") rfl T.z_int (by decide +kernel) rfl) pa_nil))) (pe_and (pe_not (pe_callB (kisi K) (by rfl) T.z_isinstance (by decide +kernel) (pa_cons (pv 0) (pa_cons (pe_bltn (v := .ty "bool") rfl T.z_bool (by decide +kernel) rfl) pa_nil)))) (pe_one (pe_cmpR op_eq (pe_op op_sub (pe_callTy call_int1 (by rfl) T.z_int (by decide +kernel) (pa_cons (pv 0) pa_nil)) (pv 1)) pe_int (nomark _))))))) pss_nil)
    (pss_cons (ps_if (pt_val (pe_callB (kisi K) (by rfl) T.z_isinstance (by decide +kernel) (pa_cons (pv 1) (pa_cons (pe_bltn (v := .ty "str") rfl T.z_str (by decide +kernel) rfl) pa_nil)))) (pss_one (ps_ret (pe_and (pe_callB (kisi K) (by rfl) T.z_isinstance (by decide +kernel) (pa_cons (pv 0) (pa_cons (pe_bltn (v := .ty "str") rfl T.z_str (by decide +kernel) rfl) pa_nil))) (pe_and (pe_cmpR op_eq (pe_callB (klen K) (by rfl) T.z_len (by decide +kernel) (pa_cons (pv 0) pa_nil)) (pe_callB (klen K) (by rfl) T.z_len (by decide +kernel) (pa_cons (pv 1) pa_nil)) (nomark _)) (pe_one (pe_cmpR (keqD K hr.units) (pe_lc (own := [("k", 2)]) (g := gName 2) (by rfl) sc_law_same.nd (pi_range1 rfl T.z_range (pa_cons (pe_callB (klen K) (by rfl) T.z_len (by decide +kernel) (pa_cons (pv 1) pa_nil)) pa_nil)) (blkOk_by (own := [("k", 2)]) (N := ["told", "due", "k"]) (sc := defScope s_law_same) (by decide +kernel)) (fun _ _ _ _ _ => (pg_name (i := 2) sc_law_same.nd rfl (Or.inl rfl))) (fun _ _ _ _ _ => (pts_one (pt_cmpR op_ne (pe_slice sl_str (pv 0) (po_some (pv 2)) (po_some (pe_op op_add (pv 2) pe_int))) (pe_ix (kix K) (pv 1) (pv 2) (fun _ _ => rfl)) (nomark _)))) (fun _ _ _ _ _ => (pv 2))) (pe_lst pa_nil) (nomark _))))))) pss_nil)
    (pss_cons (ps_if (PW.pt (pw_or (pt_cmpR op_ne (pe_callB (kisi K) (by rfl) T.z_isinstance (by decide +kernel) (pa_cons (pv 0) (pa_cons (pe_bltn (v := .ty "list") rfl T.z_list (by decide +kernel) rfl) pa_nil))) (pe_callB (kisi K) (by rfl) T.z_isinstance (by decide +kernel) (pa_cons (pv 1) (pa_cons (pe_bltn (v := .ty "list") rfl T.z_list (by decide +kernel) rfl) pa_nil))) (nomark _)) (pw_or1 (pt_cmpR op_ne (pe_callB (kisi K) (by rfl) T.z_isinstance (by decide +kernel) (pa_cons (pv 0) (pa_cons (pe_bltn (v := .ty "tuple") rfl T.z_tuple (by decide +kernel) rfl) pa_nil))) (pe_callB (kisi K) (by rfl) T.z_isinstance (by decide +kernel) (pa_cons (pv 1) (pa_cons (pe_bltn (v := .ty "tuple") rfl T.z_tuple (by decide +kernel) rfl) pa_nil))) (nomark _))))) (pss_one (ps_ret pe_bl)) pss_nil)
    (pss_one (ps_ret (pe_and (pe_cmpR op_eq (pe_callB (klenA K) (by rfl) T.z_len (by decide +kernel) (pa_cons (pv 0) pa_nil)) (pe_callB (klenA K) (by rfl) T.z_len (by decide +kernel) (pa_cons (pv 1) pa_nil)) (nomark _)) (pe_one (pe_cmpR (keqD K hr.units) (pe_lc (own := [("k", 2)]) (g := gName 2) (by rfl) sc_law_same.nd (pi_range1 rfl T.z_range (pa_cons (pe_callB (klenA K) (by rfl) T.z_len (by decide +kernel) (pa_cons (pv 1) pa_nil)) pa_nil)) (blkOk_by (own := [("k", 2)]) (N := ["told", "due", "k"]) (sc := defScope s_law_same) (by decide +kernel)) (fun _ _ _ _ _ => (pg_name (i := 2) sc_law_same.nd rfl (Or.inl rfl))) (fun _ _ _ _ _ => (pts_one (pt_not (pt_val (pe_call (ih) hr rfl T.law_same.m T.law_same.F.kp T.law_same.b .nil pass0 (pa_cons (pe_ix (kix K) (pv 0) (pv 2) (fun _ _ => rfl)) (pa_cons (pe_ix (kix K) (pv 1) (pv 2) (fun _ _ => rfl)) pa_nil))))))) (fun _ _ _ _ _ => (pv 2))) (pe_lst pa_nil) (nomark _)))))))))), ?_⟩
  cases hS with
  | non => exact ⟨_, rfl, rfl, _, rfl, iteT (iteT ⟨_, rfl, rfl, _, rfl, iteT ⟨_, rfl, rfl, q _ (Ex.refl _)⟩⟩)⟩
  | bl b =>
    refine ⟨_, rfl, rfl, _, rfl, iteF ⟨_, rfl, _, _, _, _, true, rfl, .ty _, (.base (.bl b)), kit_ty (by decide +kernel), ⟨_, rfl, iteT ⟨_, rfl, rfl, _, rfl, iteF ?_⟩⟩⟩⟩
    refine ⟨_, rfl, _, _, _, _, true, rfl, .ty _, (.base (.bl b)), kit_ty (by decide +kernel), ⟨_, rfl, iteT ⟨_, rfl, _, _, rfl, rfl, _, rfl, _, _, rfl, rfl, rfl, ?_⟩⟩⟩
    rw [decide_eq_true (rfl : V.bl (decide (b = true)) = V.bl (decide (b = true)))]
    exact q _ (Ex.refl _)
  | int i =>
    refine ⟨_, rfl, rfl, _, rfl, iteF ⟨_, rfl, _, _, _, _, false, rfl, .ty _, (.base (.int i)), kit_ty (by decide +kernel), ⟨_, rfl, iteF ?_⟩⟩⟩
    refine ⟨_, rfl, _, _, _, _, true, rfl, .ty _, (.base (.int i)), kit_ty (by decide +kernel), ⟨_, rfl, iteT ?_⟩⟩
    refine ⟨_, rfl, _, _, _, _, true, rfl, .ty _, (.base (.int i)), kit_ty (by decide +kernel), ⟨_, rfl, iteT ?_⟩⟩
    refine ⟨_, rfl, _, _, _, _, false, rfl, .ty _, (.base (.int i)), kit_ty (by decide +kernel), ⟨_, rfl, _, rfl, iteT ?_⟩⟩
    refine ⟨_, rfl, .inl ⟨_, rfl, _, rfl, _, _, rfl, rfl, rfl, ?_⟩⟩
    show Q (V.bl (decide (V.int (i - i) = V.int 0))) H
    rw [Int.sub_self]
    exact q _ (Ex.refl _)
  | str z hz =>
    have hz' : z.length ≤ sizeLine := Nat.le_trans hz (by decide)
    refine ⟨_, rfl, rfl, _, rfl, iteF ⟨_, rfl, _, _, _, _, false, rfl, .ty _, (.base (.str z)), kit_ty (by decide +kernel), ⟨_, rfl, iteF ?_⟩⟩⟩
    refine ⟨_, rfl, _, _, _, _, false, rfl, .ty _, (.base (.str z)), kit_ty (by decide +kernel), ⟨_, rfl, iteF ?_⟩⟩
    refine ⟨_, rfl, _, _, _, _, true, rfl, .ty _, (.base (.str z)), kit_ty (by decide +kernel), ⟨_, rfl, iteT ?_⟩⟩
    refine ⟨_, rfl, _, _, _, _, true, rfl, .ty _, (.base (.str z)), kit_ty (by decide +kernel), ⟨_, rfl, iteT ?_⟩⟩
    refine ⟨_, rfl, _, z.length, rfl, ⟨hz', rfl⟩, _, rfl, _, z.length, rfl, ⟨hz', rfl⟩, rfl, _, rfl, ?_⟩
    rw [if_pos (decide_eq_true rfl)]
    refine eq_empty (no_given (n := (z.length : Int).toNat) (v := fun _ => V.non)) ?_ H (Ex.refl _) Q (fun H2 e2 => q H2 e2)
    refine el_lcR1 (fun _ => false) (fun _ => V.non) ?_ ⟨by omega, by omega⟩ (fun _ => rfl) ?_ (fun _ _ _ _ hf => nomatch hf)
    · exact fun H1 e Q' k => ⟨_, rfl, _, z.length, rfl, ⟨hz', rfl⟩, k H1 (Ex.refl _)⟩
    · intro i H1 e hi
      have hz2 : i < z.cps.toList.length := by
        have e2 : z.cps.toList.length = z.length := Array.length_toList
        omega
      have hat : atI z.cps.toList (i : Int) = some z.cps.toList[i] := atI_nat (List.getElem?_eq_getElem hz2)
      have hc := cut_one (List.getElem?_eq_getElem hz2)
      intro H2 e2 Q2 k2
      refine ⟨_, rfl, _, rfl, _, rfl, _, rfl, _, _, rfl, rfl, _, rfl, z, rfl, hz', _, rfl, _, rfl, .inr (.inr ⟨z, _, _, rfl, rfl, hz', hat, rfl, _, rfl, ?_⟩)⟩
      rw [hc, decide_eq_true rfl]
      exact k2 H2 (Ex.refl _)
  | @lst n a b xs ys h1 h2 hl hl1 all =>
    refine ⟨_, rfl, rfl, _, rfl, iteF ⟨_, rfl, _, _, _, _, false, rfl, .ty _, (tyL h2), kit_ty (by decide +kernel), ⟨_, rfl, iteF ?_⟩⟩⟩
    refine ⟨_, rfl, _, _, _, _, false, rfl, .ty _, (tyL h2), kit_ty (by decide +kernel), ⟨_, rfl, iteF ?_⟩⟩
    refine ⟨_, rfl, _, _, _, _, false, rfl, .ty _, (tyL h2), kit_ty (by decide +kernel), ⟨_, rfl, iteF ?_⟩⟩
    refine ⟨_, rfl, _, _, _, _, true, rfl, .ty _, (tyL h1), kit_ty (by decide +kernel), ⟨_, rfl, _, _, _, _, true, rfl, .ty _, (tyL h2), kit_ty (by decide +kernel), ⟨rfl, _, rfl, iteF ?_⟩⟩⟩
    refine ⟨_, rfl, _, _, _, _, false, rfl, .ty _, (tyL h1), kit_ty (by decide +kernel), ⟨_, rfl, _, _, _, _, false, rfl, .ty _, (tyL h2), kit_ty (by decide +kernel), ⟨rfl, _, rfl, iteF ?_⟩⟩⟩
    refine ⟨_, rfl, .inl ⟨_, xs.length, rfl, .inl ⟨_, h1, rfl⟩, _, rfl, .inl ⟨_, ys.length, rfl, .inl ⟨_, h2, rfl⟩, rfl, _, rfl, ?_⟩⟩⟩
    rw [if_pos (decide_eq_true (by rw [hl]))]
    refine eq_empty (no_given (n := (ys.length : Int).toNat) (v := fun _ => V.non)) ?_ H (Ex.refl _) Q (fun H2 e2 => q H2 e2)
    refine el_lcR1 (fun _ => false) (fun _ => V.non) ?_ ⟨by omega, by omega⟩ (fun _ => rfl) ?_ (fun _ _ _ _ hf => nomatch hf)
    · exact fun H1 e Q' k => ⟨_, rfl, .inl ⟨_, ys.length, rfl, .inl ⟨_, ex_l e h2, rfl⟩, k H1 (Ex.refl _)⟩⟩
    · intro i H1 e hi H2 e2 Q2 k2
      have hy : ys[i]? = some ys[i] := List.getElem?_eq_getElem (by omega)
      have hx : xs[i]? = some xs[i] := List.getElem?_eq_getElem (by omega)
      refine ⟨_, rfl, _, rfl, .inl ⟨_, _, _, _, rfl, rfl, ex_l (e.trans e2) h1, atI_nat hx, _, rfl, _, rfl, .inl ⟨_, _, _, _, rfl, rfl, ex_l (e.trans e2) h2, atI_nat hy, ?_⟩⟩⟩
      exact ⟨_, _, rfl, (all i _ _ hx hy).ex (e.trans e2), fun H3 e3 => ⟨true, rfl, k2 H3 e3⟩⟩
  | @tup n a b xs ys h1 h2 hl hl1 all =>
    refine ⟨_, rfl, rfl, _, rfl, iteF ⟨_, rfl, _, _, _, _, false, rfl, .ty _, (tyT h2), kit_ty (by decide +kernel), ⟨_, rfl, iteF ?_⟩⟩⟩
    refine ⟨_, rfl, _, _, _, _, false, rfl, .ty _, (tyT h2), kit_ty (by decide +kernel), ⟨_, rfl, iteF ?_⟩⟩
    refine ⟨_, rfl, _, _, _, _, false, rfl, .ty _, (tyT h2), kit_ty (by decide +kernel), ⟨_, rfl, iteF ?_⟩⟩
    refine ⟨_, rfl, _, _, _, _, false, rfl, .ty _, (tyT h1), kit_ty (by decide +kernel), ⟨_, rfl, _, _, _, _, false, rfl, .ty _, (tyT h2), kit_ty (by decide +kernel), ⟨rfl, _, rfl, iteF ?_⟩⟩⟩
    refine ⟨_, rfl, _, _, _, _, true, rfl, .ty _, (tyT h1), kit_ty (by decide +kernel), ⟨_, rfl, _, _, _, _, true, rfl, .ty _, (tyT h2), kit_ty (by decide +kernel), ⟨rfl, _, rfl, iteF ?_⟩⟩⟩
    refine ⟨_, rfl, .inl ⟨_, xs.length, rfl, .inr ⟨_, h1, rfl⟩, _, rfl, .inl ⟨_, ys.length, rfl, .inr ⟨_, h2, rfl⟩, rfl, _, rfl, ?_⟩⟩⟩
    rw [if_pos (decide_eq_true (by rw [hl]))]
    refine eq_empty (no_given (n := (ys.length : Int).toNat) (v := fun _ => V.non)) ?_ H (Ex.refl _) Q (fun H2 e2 => q H2 e2)
    refine el_lcR1 (fun _ => false) (fun _ => V.non) ?_ ⟨by omega, by omega⟩ (fun _ => rfl) ?_ (fun _ _ _ _ hf => nomatch hf)
    · exact fun H1 e Q' k => ⟨_, rfl, .inl ⟨_, ys.length, rfl, .inr ⟨_, ex_t e h2, rfl⟩, k H1 (Ex.refl _)⟩⟩
    · intro i H1 e hi H2 e2 Q2 k2
      have hy : ys[i]? = some ys[i] := List.getElem?_eq_getElem (by omega)
      have hx : xs[i]? = some xs[i] := List.getElem?_eq_getElem (by omega)
      refine ⟨_, rfl, _, rfl, .inr (.inl ⟨_, _, _, _, rfl, rfl, ex_t (e.trans e2) h1, atI_nat hx, _, rfl, _, rfl, .inr (.inl ⟨_, _, _, _, rfl, rfl, ex_t (e.trans e2) h2, atI_nat hy, ?_⟩)⟩)⟩
      exact ⟨_, _, rfl, (all i _ _ hx hy).ex (e.trans e2), fun H3 e3 => ⟨true, rfl, k2 H3 e3⟩⟩
  | @dct n a b h1 h2 =>
    have t1 : TyX K H (.ref a) (.type "dict") := .base (.dK h1)
    have t2 : TyX K H (.ref b) (.type "dict") := .base (.dK h2)
    refine ⟨_, rfl, rfl, _, rfl, iteF ⟨_, rfl, _, _, _, _, false, rfl, .ty _, t2, kit_ty (by decide +kernel), ⟨_, rfl, iteF ?_⟩⟩⟩
    refine ⟨_, rfl, _, _, _, _, false, rfl, .ty _, t2, kit_ty (by decide +kernel), ⟨_, rfl, iteF ?_⟩⟩
    refine ⟨_, rfl, _, _, _, _, false, rfl, .ty _, t2, kit_ty (by decide +kernel), ⟨_, rfl, iteF ?_⟩⟩
    refine ⟨_, rfl, _, _, _, _, false, rfl, .ty _, t1, kit_ty (by decide +kernel), ⟨_, rfl, _, _, _, _, false, rfl, .ty _, t2, kit_ty (by decide +kernel), ⟨rfl, _, rfl, iteF ?_⟩⟩⟩
    refine ⟨_, rfl, _, _, _, _, false, rfl, .ty _, t1, kit_ty (by decide +kernel), ⟨_, rfl, _, _, _, _, false, rfl, .ty _, t2, kit_ty (by decide +kernel), ⟨rfl, _, rfl, iteF ?_⟩⟩⟩
    refine ⟨_, rfl, .inr ⟨a, [], rfl, h1, _, rfl, .inr ⟨b, [], rfl, h2, rfl, _, rfl, ?_⟩⟩⟩
    rw [if_pos (decide_eq_true rfl)]
    refine eq_empty (no_given (n := (0 : Int).toNat) (v := fun _ => V.non)) ?_ H (Ex.refl _) Q (fun H2 e2 => q H2 e2)
    refine el_lcR1 (n := 0) (fun _ => false) (fun _ => V.non) ?_ ⟨by omega, by omega⟩ (fun _ => rfl) ?_ (fun _ _ _ _ hf => nomatch hf)
    · exact fun H1 e Q' k => ⟨_, rfl, .inr ⟨b, [], rfl, e _ _ h2, k H1 (Ex.refl _)⟩⟩
    · intro i H1 e hi
      omega
theorem ok_same (T : TA1 K mg) : ∀ n, FnOk P w K mg base CX0 n T.law_same.a T.law_same.fd ["told", "due"] (spS K n)
  | 0 => none_left fun _ _ _ _ h => h
  | n + 1 => same_step T n (ok_same T n)
theorem ok_law_same (T : TA1 K mg) : FnOk P w K mg base CX0 9 T.law_same.a T.law_same.fd ["told", "due"] (spSame K 8) := ok_same T 9
end
end L2.U


set_option Elab.async false
set_option linter.all false
set_option maxRecDepth 100000
set_option maxHeartbeats 4000000
namespace L2.U
open PySem PySem.Spec PyProof.Rows Evl
abbrev s_arrangements : Stmt := top 22
theorem sc_arrangements : FnScope ["parts", "result", "total", "part"] ["parts"] (defScope s_arrangements) := ⟨rfl, rfl, rfl, by decide +kernel, rfl, by decide +kernel, by decide +kernel⟩
abbrev s_even_parts : Stmt := top 23
theorem sc_even_parts : FnScope ["total", "many", "low", "greater"] ["total", "many"] (defScope s_even_parts) := ⟨rfl, rfl, rfl, by decide +kernel, rfl, by decide +kernel, by decide +kernel⟩
abbrev s_most_arranged : Stmt := top 24
theorem sc_most_arranged : FnScope ["total", "rounds", "rest"] ["total", "rounds", "rest"] (defScope s_most_arranged) := ⟨rfl, rfl, rfl, by decide +kernel, rfl, by decide +kernel, by decide +kernel⟩
abbrev s_check_number : Stmt := top 25
theorem sc_check_number : FnScope ["number"] ["number"] (defScope s_check_number) := ⟨rfl, rfl, rfl, by decide +kernel, rfl, by decide +kernel, by decide +kernel⟩
abbrev s_check_many : Stmt := top 26
theorem sc_check_many : FnScope ["many"] ["many"] (defScope s_check_many) := ⟨rfl, rfl, rfl, by decide +kernel, rfl, by decide +kernel, by decide +kernel⟩
abbrev s_are_between : Stmt := top 7
theorem sc_are_between : FnScope ["values", "low", "high", "value"] ["values", "low", "high"] (defScope s_are_between) := ⟨rfl, rfl, rfl, by decide +kernel, rfl, by decide +kernel, by decide +kernel⟩
abbrev s_is_row : Stmt := top 33
theorem sc_is_row : FnScope ["value"] ["value"] (defScope s_is_row) := ⟨rfl, rfl, rfl, by decide +kernel, rfl, by decide +kernel, by decide +kernel⟩
abbrev s_stairs_by : Stmt := top 35
theorem sc_stairs_by : FnScope ["row", "told", "found", "number"] ["row", "told"] (defScope s_stairs_by) := ⟨rfl, rfl, rfl, by decide +kernel, rfl, by decide +kernel, by decide +kernel⟩
abbrev s_stair : Stmt := top 36
theorem sc_stair : FnScope ["number", "told", "further", "needs", "rest", "kinds"] ["number", "told", "further"] (defScope s_stair) := ⟨rfl, rfl, rfl, by decide +kernel, rfl, by decide +kernel, by decide +kernel⟩
abbrev s_least : Stmt := top 37
theorem sc_least : FnScope ["number", "told", "needs", "least", "rest", "values", "answers", "both"] ["number", "told", "needs"] (defScope s_least) := ⟨rfl, rfl, rfl, by decide +kernel, rfl, by decide +kernel, by decide +kernel⟩
abbrev s_need : Stmt := top 38
theorem sc_need : FnScope ["further", "rest", "kinds", "least"] ["further", "rest"] (defScope s_need) := ⟨rfl, rfl, rfl, by decide +kernel, rfl, by decide +kernel, by decide +kernel⟩
abbrev s_fewest_answers : Stmt := top 39
theorem sc_fewest_answers : FnScope ["number", "values", "answers", "many"] ["number", "values"] (defScope s_fewest_answers) := ⟨rfl, rfl, rfl, by decide +kernel, rfl, by decide +kernel, by decide +kernel⟩
abbrev s_told_by_kinds : Stmt := top 40
theorem sc_told_by_kinds : FnScope ["most", "rest", "kinds"] ["most"] (defScope s_told_by_kinds) := ⟨rfl, rfl, rfl, by decide +kernel, rfl, by decide +kernel, by decide +kernel⟩
abbrev s_told_by : Stmt := top 41
theorem sc_told_by : FnScope ["kinds", "rest", "rounds"] ["kinds", "rest"] (defScope s_told_by) := ⟨rfl, rfl, rfl, by decide +kernel, rfl, by decide +kernel, by decide +kernel⟩
abbrev s_check_row : Stmt := top 42
theorem sc_check_row : FnScope ["row"] ["row"] (defScope s_check_row) := ⟨rfl, rfl, rfl, by decide +kernel, rfl, by decide +kernel, by decide +kernel⟩
abbrev s_check_stairs : Stmt := top 43
theorem sc_check_stairs : FnScope ["row", "most"] ["row", "most"] (defScope s_check_stairs) := ⟨rfl, rfl, rfl, by decide +kernel, rfl, by decide +kernel, by decide +kernel⟩
abbrev s_stairs : Stmt := top 31
theorem sc_stairs : FnScope ["row", "most"] ["row", "most"] (defScope s_stairs) := ⟨rfl, rfl, rfl, by decide +kernel, rfl, by decide +kernel, by decide +kernel⟩
abbrev s_stairs_hold : Stmt := top 32
theorem sc_stairs_hold : FnScope ["row", "most", "value", "stair"] ["row", "most", "value"] (defScope s_stairs_hold) := ⟨rfl, rfl, rfl, by decide +kernel, rfl, by decide +kernel, by decide +kernel⟩
abbrev s_is_stair : Stmt := top 34
theorem sc_is_stair : FnScope ["value", "least"] ["value"] (defScope s_is_stair) := ⟨rfl, rfl, rfl, by decide +kernel, rfl, by decide +kernel, by decide +kernel⟩
abbrev s_init_InvalidNumber : Stmt := inClass (top 11) 0
theorem sc_init_InvalidNumber : FnScope ["self", "given"] ["self", "given"] (defScope s_init_InvalidNumber) := ⟨rfl, rfl, rfl, by decide +kernel, rfl, by decide +kernel, by decide +kernel⟩
abbrev s_init_InvalidMany : Stmt := inClass (top 12) 0
theorem sc_init_InvalidMany : FnScope ["self", "given"] ["self", "given"] (defScope s_init_InvalidMany) := ⟨rfl, rfl, rfl, by decide +kernel, rfl, by decide +kernel, by decide +kernel⟩
abbrev s_init_InvalidParts : Stmt := inClass (top 13) 0
theorem sc_init_InvalidParts : FnScope ["self", "given"] ["self", "given"] (defScope s_init_InvalidParts) := ⟨rfl, rfl, rfl, by decide +kernel, rfl, by decide +kernel, by decide +kernel⟩
abbrev s_init_InvalidRest : Stmt := inClass (top 14) 0
theorem sc_init_InvalidRest : FnScope ["self", "given"] ["self", "given"] (defScope s_init_InvalidRest) := ⟨rfl, rfl, rfl, by decide +kernel, rfl, by decide +kernel, by decide +kernel⟩
abbrev s_init_InvalidRow : Stmt := inClass (top 18) 0
theorem sc_init_InvalidRow : FnScope ["self", "given"] ["self", "given"] (defScope s_init_InvalidRow) := ⟨rfl, rfl, rfl, by decide +kernel, rfl, by decide +kernel, by decide +kernel⟩
abbrev s_init_InvalidMost : Stmt := inClass (top 19) 0
theorem sc_init_InvalidMost : FnScope ["self", "given"] ["self", "given"] (defScope s_init_InvalidMost) := ⟨rfl, rfl, rfl, by decide +kernel, rfl, by decide +kernel, by decide +kernel⟩
structure TA2 (K : PySem.W.Frag) (mg : Str → Option Value) extends TA1 K mg where
  arrangements : DefAt K mg "arrangements" s_arrangements ["parts"]
  even_parts : DefAt K mg "even_parts" s_even_parts ["total", "many"]
  most_arranged : DefAt K mg "most_arranged" s_most_arranged ["total", "rounds", "rest"]
  check_number : DefAt K mg "_check_number" s_check_number ["number"]
  check_many : DefAt K mg "_check_many" s_check_many ["many"]
  are_between : DefAt K mg "are_between" s_are_between ["values", "low", "high"]
  is_row : DefAt K mg "is_row" s_is_row ["value"]
  stairs_by : DefAt K mg "stairs_by" s_stairs_by ["row", "told"]
  stair : DefAt K mg "_stair" s_stair ["number", "told", "further"]
  least : DefAt K mg "_least" s_least ["number", "told", "needs"]
  need : DefAt K mg "_need" s_need ["further", "rest"]
  fewest_answers : DefAt K mg "_fewest_answers" s_fewest_answers ["number", "values"]
  told_by_kinds : DefAt K mg "told_by_kinds" s_told_by_kinds ["most"]
  told_by : DefAt K mg "_told_by" s_told_by ["kinds", "rest"]
  check_row : DefAt K mg "_check_row" s_check_row ["row"]
  check_stairs : DefAt K mg "_check_stairs" s_check_stairs ["row", "most"]
  stairs : DefAt K mg "stairs" s_stairs ["row", "most"]
  stairs_hold : DefAt K mg "stairs_hold" s_stairs_hold ["row", "most", "value"]
  is_stair : DefAt K mg "_is_stair" s_is_stair ["value"]
  InvalidNumber : ErrAt K mg "InvalidNumber" "InvalidNumber.__init__" s_init_InvalidNumber "given"
  InvalidMany : ErrAt K mg "InvalidMany" "InvalidMany.__init__" s_init_InvalidMany "given"
  InvalidParts : ErrAt K mg "InvalidParts" "InvalidParts.__init__" s_init_InvalidParts "given"
  InvalidRest : ErrAt K mg "InvalidRest" "InvalidRest.__init__" s_init_InvalidRest "given"
  InvalidRow : ErrAt K mg "InvalidRow" "InvalidRow.__init__" s_init_InvalidRow "given"
  InvalidMost : ErrAt K mg "InvalidMost" "InvalidMost.__init__" s_init_InvalidMost "given"
  t_HIGHEST : Tok
  c_HIGHEST : mg "HIGHEST" = some (.int 64 t_HIGHEST)
  t_MOST_NUMBERS : Tok
  c_MOST_NUMBERS : mg "MOST_NUMBERS" = some (.int 16 t_MOST_NUMBERS)
  t_GREATEST : Tok
  c_GREATEST : mg "GREATEST" = some (.int 100000000000000000000000000000000000000000000000000 t_GREATEST)
  t_MOST_KINDS : Tok
  c_MOST_KINDS : mg "MOST_KINDS" = some (.int 16 t_MOST_KINDS)
  c_comb : mg "comb" = some (.builtin "math.comb")
  z_max : mg "max" = none
  z_min : mg "min" = none
  z_enumerate : mg "enumerate" = none
section
variable {P : Program} {w : World} {K : PySem.W.Frag} {mg : Str → Option Value} {base : Heap}
section
variable {X : Cx}
theorem kmax (K : PySem.W.Frag) (hc : X.calm = true) (h : X.K = K := by rfl) : CallR X (.builtin "max") (rMax K) := by subst h; exact cr_max hc
theorem kmin (K : PySem.W.Frag) (hc : X.calm = true) (h : X.K = K := by rfl) : CallR X (.builtin "min") (rMin K) := by subst h; exact cr_min hc
end
theorem two_le : 2 ≤ sizeLine := by decide
theorem ok_init_InvalidNumber (T : ErrAt K mg "InvalidNumber" "InvalidNumber.__init__" s_init_InvalidNumber "given") : FnOk P w K mg base CX0 1 T.fI T.fd ["self", "given"] (spInit T.C "given") := by
  refine T.F.ok sc_init_InvalidNumber (fun vs H Q E h => ?_) (fun cdv A outer s H vs Q E hr h => ?_)
  · obtain ⟨a, y, rfl, _⟩ := h; rfl
  obtain ⟨a, y, rfl, ha, q⟩ := h
  exact ⟨_, pss_one (ps_ost (pv 0) (pv 1)), _, rfl, _, rfl, a, T.C, rfl, T.T, T.nf, .inl ⟨ha, fun d hd nd => q d hd nd⟩⟩
theorem ok_init_InvalidMany (T : ErrAt K mg "InvalidMany" "InvalidMany.__init__" s_init_InvalidMany "given") : FnOk P w K mg base CX0 1 T.fI T.fd ["self", "given"] (spInit T.C "given") := by
  refine T.F.ok sc_init_InvalidMany (fun vs H Q E h => ?_) (fun cdv A outer s H vs Q E hr h => ?_)
  · obtain ⟨a, y, rfl, _⟩ := h; rfl
  obtain ⟨a, y, rfl, ha, q⟩ := h
  exact ⟨_, pss_one (ps_ost (pv 0) (pv 1)), _, rfl, _, rfl, a, T.C, rfl, T.T, T.nf, .inl ⟨ha, fun d hd nd => q d hd nd⟩⟩
theorem ok_init_InvalidParts (T : ErrAt K mg "InvalidParts" "InvalidParts.__init__" s_init_InvalidParts "given") : FnOk P w K mg base CX0 1 T.fI T.fd ["self", "given"] (spInit T.C "given") := by
  refine T.F.ok sc_init_InvalidParts (fun vs H Q E h => ?_) (fun cdv A outer s H vs Q E hr h => ?_)
  · obtain ⟨a, y, rfl, _⟩ := h; rfl
  obtain ⟨a, y, rfl, ha, q⟩ := h
  exact ⟨_, pss_one (ps_ost (pv 0) (pv 1)), _, rfl, _, rfl, a, T.C, rfl, T.T, T.nf, .inl ⟨ha, fun d hd nd => q d hd nd⟩⟩
theorem ok_init_InvalidRest (T : ErrAt K mg "InvalidRest" "InvalidRest.__init__" s_init_InvalidRest "given") : FnOk P w K mg base CX0 1 T.fI T.fd ["self", "given"] (spInit T.C "given") := by
  refine T.F.ok sc_init_InvalidRest (fun vs H Q E h => ?_) (fun cdv A outer s H vs Q E hr h => ?_)
  · obtain ⟨a, y, rfl, _⟩ := h; rfl
  obtain ⟨a, y, rfl, ha, q⟩ := h
  exact ⟨_, pss_one (ps_ost (pv 0) (pv 1)), _, rfl, _, rfl, a, T.C, rfl, T.T, T.nf, .inl ⟨ha, fun d hd nd => q d hd nd⟩⟩
theorem ok_init_InvalidRow (T : ErrAt K mg "InvalidRow" "InvalidRow.__init__" s_init_InvalidRow "given") : FnOk P w K mg base CX0 1 T.fI T.fd ["self", "given"] (spInit T.C "given") := by
  refine T.F.ok sc_init_InvalidRow (fun vs H Q E h => ?_) (fun cdv A outer s H vs Q E hr h => ?_)
  · obtain ⟨a, y, rfl, _⟩ := h; rfl
  obtain ⟨a, y, rfl, ha, q⟩ := h
  exact ⟨_, pss_one (ps_ost (pv 0) (pv 1)), _, rfl, _, rfl, a, T.C, rfl, T.T, T.nf, .inl ⟨ha, fun d hd nd => q d hd nd⟩⟩
theorem ok_init_InvalidMost (T : ErrAt K mg "InvalidMost" "InvalidMost.__init__" s_init_InvalidMost "given") : FnOk P w K mg base CX0 1 T.fI T.fd ["self", "given"] (spInit T.C "given") := by
  refine T.F.ok sc_init_InvalidMost (fun vs H Q E h => ?_) (fun cdv A outer s H vs Q E hr h => ?_)
  · obtain ⟨a, y, rfl, _⟩ := h; rfl
  obtain ⟨a, y, rfl, ha, q⟩ := h
  exact ⟨_, pss_one (ps_ost (pv 0) (pv 1)), _, rfl, _, rfl, a, T.C, rfl, T.T, T.nf, .inl ⟨ha, fun d hd nd => q d hd nd⟩⟩
/-- a check of any data: it lets what is right, else raises the error of C with the very value -/
def spChkD (K : PySem.W.Frag) (C : Addr) (okD : PyData → Bool) : Sp := fun vs H Q E => ∃ x d n ok, vs = [x] ∧ Rd K ok H n x d ∧ (okD d = true → ∀ H', Ex H H' → Q .non H') ∧
  (okD d = false → ∀ e H', Ex H H' → H' e = some (.xd [("given", x)]) → E (.ref C) (some e) H')
def num64 (d : PyData) : Bool := betwD 0 64 d
def many64 (d : PyData) : Bool := betwD 1 64 d
theorem ok_check_number (T : TA2 K mg) : FnOk P w K mg base (L2.CX P w) 4 T.check_number.a T.check_number.fd ["number"] (spChkD K T.InvalidNumber.C num64) := by
  refine T.check_number.F.okX sc_check_number (fun vs H Q E h => ?_) (fun cdv A outer s H vs Q E hr h => ?_)
  · obtain ⟨x, d, n, ok, rfl, _⟩ := h; rfl
  obtain ⟨x, d, n, ok, rfl, h, q1, q2⟩ := h
  refine ⟨_, (pss_one (ps_if (pt_not (pt_val (pe_call (ok_is_between T.toTA1) (hr.mono (by decide)) rfl T.is_between.m T.is_between.F.kp T.is_between.b .nil pass0 (pa_cons (pv 0) (pa_cons pe_int (pa_cons (pe_glob (v := .int 64) rfl T.c_HIGHEST ⟨_, rfl⟩) pa_nil)))))) (pss_one (ps_raise rfl (takes_of rfl rfl rfl rfl) (pmk_oex T.InvalidNumber.T T.InvalidNumber.iC T.InvalidNumber.tI (ok_init_InvalidNumber T.InvalidNumber) (hr.mono (by decide)) T.InvalidNumber.b .nil pass0 rfl T.InvalidNumber.gC (by exact (pa_cons (pv 0) pa_nil))))) pss_nil)), ?_⟩
  refine ⟨_, rfl, _, _, _, rfl, h.dat, fun b h1 h2 => ⟨b, rfl, ?_⟩⟩
  have hb := rd_betw h h1 h2
  subst hb
  cases c : betwD 0 64 d with
  | true => exact q1 c _ (Ex.refl _)
  | false => exact ⟨_, rfl, (by show 1 ≤ 1000; decide), fun a ha => raised ha fun e H' ex he => q2 c e H' ex he⟩
theorem ok_check_many (T : TA2 K mg) : FnOk P w K mg base (L2.CX P w) 4 T.check_many.a T.check_many.fd ["many"] (spChkD K T.InvalidMany.C many64) := by
  refine T.check_many.F.okX sc_check_many (fun vs H Q E h => ?_) (fun cdv A outer s H vs Q E hr h => ?_)
  · obtain ⟨x, d, n, ok, rfl, _⟩ := h; rfl
  obtain ⟨x, d, n, ok, rfl, h, q1, q2⟩ := h
  refine ⟨_, (pss_one (ps_if (pt_not (pt_val (pe_call (ok_is_between T.toTA1) (hr.mono (by decide)) rfl T.is_between.m T.is_between.F.kp T.is_between.b .nil pass0 (pa_cons (pv 0) (pa_cons pe_int (pa_cons (pe_glob (v := .int 64) rfl T.c_HIGHEST ⟨_, rfl⟩) pa_nil)))))) (pss_one (ps_raise rfl (takes_of rfl rfl rfl rfl) (pmk_oex T.InvalidMany.T T.InvalidMany.iC T.InvalidMany.tI (ok_init_InvalidMany T.InvalidMany) (hr.mono (by decide)) T.InvalidMany.b .nil pass0 rfl T.InvalidMany.gC (by exact (pa_cons (pv 0) pa_nil))))) pss_nil)), ?_⟩
  refine ⟨_, rfl, _, _, _, rfl, h.dat, fun b h1 h2 => ⟨b, rfl, ?_⟩⟩
  have hb := rd_betw h h1 h2
  subst hb
  cases c : betwD 1 64 d with
  | true => exact q1 c _ (Ex.refl _)
  | false => exact ⟨_, rfl, (by show 1 ≤ 1000; decide), fun a ha => raised ha fun e H' ex he => q2 c e H' ex he⟩
theorem betw_int {lo hi : Int} {ok : Addr → Prop} {H : Hp} {n : Nat} {x : V} {d : PyData} (h : Rd K ok H n x d) (c : betwD lo hi d = true) : ∃ i, x = .int i ∧ d = .int i ∧ lo ≤ i ∧ i ≤ hi := by
  cases h with
  | int i => exact ⟨i, rfl, rfl, of_decide_eq_true c⟩
  | non => cases c
  | bl _ => cases c
  | str _ _ _ => cases c
  | lst _ _ _ _ _ => cases c
  | tup _ _ _ _ _ => cases c

def evenOf (i j : Int) : List Int := List.replicate (i - i / j * j).toNat (i / j + 1) ++ List.replicate (j - (i - i / j * j)).toNat (i / j)
def spEven (K : PySem.W.Frag) (C D : Addr) : Sp := fun vs H Q E => ∃ x y dx dy n ok, vs = [x, y] ∧ Rd K ok H n x dx ∧ Rd K ok H n y dy ∧
  (num64 dx = true → many64 dy = true → ∀ p H', Ex H H' → (∀ i j, x = .int i → y = .int j → SqT K H' p ((evenOf i j).map V.int)) → Q (.ref p) H') ∧
  (num64 dx = false → ∀ e H', Ex H H' → H' e = some (.xd [("given", x)]) → E (.ref C) (some e) H') ∧
  (num64 dx = true → many64 dy = false → ∀ e H', Ex H H' → H' e = some (.xd [("given", y)]) → E (.ref D) (some e) H')
theorem rep_one {n : Nat} {x : V} : (List.replicate n [x]).flatten = List.replicate n x := by
  induction n with
  | zero => rfl
  | succ n ih => rw [List.replicate_succ, List.flatten_cons, ih, List.replicate_succ]; rfl
theorem even_map {i j : Int} : (List.replicate (i - i / j * j).toNat (V.int (i / j + 1)) ++ List.replicate (j - (i - i / j * j)).toNat (V.int (i / j))) = (evenOf i j).map V.int := by
  unfold evenOf
  rw [List.map_append, List.map_replicate, List.map_replicate]
theorem ok_even_parts (T : TA2 K mg) : FnOk P w K mg base (L2.CX P w) 5 T.even_parts.a T.even_parts.fd ["total", "many"] (spEven K T.InvalidNumber.C T.InvalidMany.C) := by
  refine T.even_parts.F.okX sc_even_parts (fun vs H Q E h => ?_) (fun cdv A outer s H vs Q E hr h => ?_)
  · obtain ⟨x, y, dx, dy, n, ok, rfl, _⟩ := h; rfl
  obtain ⟨x, y, dx, dy, n, ok, rfl, hx, hy, q1', q2, q3⟩ := h
  refine ⟨_, (pss_cons (ps_expr (by exact (pe_callS (ok_check_number T) (hr.mono (by decide)) rfl T.check_number.m T.check_number.F.kp T.check_number.b (fun σ => passAt (takes_of rfl rfl rfl rfl) σ) (pa_cons (pv 0) pa_nil))))
    (pss_cons (ps_expr (by exact (pe_callS (ok_check_many T) (hr.mono (by decide)) rfl T.check_many.m T.check_many.F.kp T.check_many.b (fun σ => passAt (takes_of rfl rfl rfl rfl) σ) (pa_cons (pv 1) pa_nil))))
    (pss_cons (ps_set (i := 2) sc_even_parts.nd rfl (Or.inl rfl) (pe_op op_fdiv (pv 0) (pv 1)))
    (pss_cons (ps_set (i := 3) sc_even_parts.nd rfl (Or.inl rfl) (pe_op op_sub (pv 0) (pe_op op_mul (pv 2) (pv 1))))
    (pss_one (ps_ret (pe_op (kcatA K) (pe_op (krepA K) (pe_tup (pa_cons (pe_op op_add (pv 2) pe_int) pa_nil)) (pv 3)) (pe_op (krepA K) (pe_tup (pa_cons (pv 2) pa_nil)) (pe_op op_sub (pv 1) (pv 3)))))))))), ?_⟩
  refine ⟨_, rfl, x, dx, n, ok, rfl, hx, fun c H1 e1 => ?_, fun no e H1 e1 he => q2 no e H1 e1 he⟩
  refine ⟨_, rfl, y, dy, n, ok, rfl, hy.ex e1, fun c2 H2 e2 => ?_, fun no e H2 e2 he => q3 c no e H2 (e1.trans e2) he⟩
  obtain ⟨i, rfl, rfl, i0, i1⟩ := betw_int hx c
  obtain ⟨j, rfl, rfl, j0, j1⟩ := betw_int hy c2
  have q1 : ∀ p H', Ex H H' → SqT K H' p (List.replicate (i - i / j * j).toNat (V.int (i / j + 1)) ++ List.replicate (j - (i - i / j * j)).toNat (V.int (i / j))) → Q (.ref p) H' := fun p H' e h => q1' c c2 p H' e fun i' j' ei ej => by
    cases ei; cases ej; rw [even_map] at h; exact h
  have d2 : i / j * j ≤ i := Int.ediv_mul_le _ (by omega)
  have d3 : i - i / j * j < j := by
    have := Int.lt_ediv_add_one_mul_self i (show 0 < j by omega)
    have e : (i / j + 1) * j = i / j * j + j := by rw [Int.add_mul, Int.one_mul]
    omega
  refine ⟨_, rfl, _, rfl, _, _, rfl, rfl, ⟨by omega, by omega⟩, ?_⟩
  refine ⟨_, rfl, _, rfl, _, rfl, _, _, rfl, rfl, .inr ⟨by omega, by omega⟩, _, _, rfl, rfl, ?_⟩
  refine ⟨_, rfl, _, _, rfl, rfl, (by show 1 ≤ sizeLine; decide), fun p hp => ?_⟩
  refine ⟨_, rfl, p, _, _, rfl, rfl, st_of upd_same, by simp, by omega, by omega, (by show 1 ≤ 1000; decide), fun r H3 e3 hr3 => ?_⟩
  refine ⟨_, rfl, (by show 1 ≤ sizeLine; decide), fun p2 hp2 => ?_⟩
  refine ⟨_, rfl, _, rfl, _, _, rfl, rfl, p2, _, _, rfl, rfl, st_of upd_same, by simp, by omega, by omega, (by show 1 ≤ 1000; decide), fun r2 H4 e4 hr4 => ?_⟩
  rw [rep_one] at hr3 hr4
  have hr3' := ex_t e4 (ex_t (Ex.new hp2) hr3)
  have e5 : Ex H H4 := (((e1.trans e2).trans (Ex.new hp)).trans e3).trans ((Ex.new hp2).trans e4)
  refine ⟨r, r2, _, _, rfl, rfl, hr3', hr4, ?_, ?_, ?_, ?_⟩
  · rw [List.length_replicate, List.length_replicate]
    exact Nat.le_trans (show _ ≤ 1000 by omega) (by decide)
  · intro z
    refine q1 r2 _ e5 ?_
    rw [z]
    exact hr4
  · intro _ z
    refine q1 r _ e5 ?_
    rw [z, List.append_nil]
    exact hr3'
  · intro _ _ p5 hp5
    exact q1 p5 _ (e5.trans (Ex.new hp5)) (st_of upd_same)
/-! ### comprehensions over a list or a tuple -/
theorem given_all {n : Nat} {v : Nat → V} : given n (fun _ => true) v = (List.range n).map v := by
  unfold given
  rw [List.filter_eq_self.mpr (by intro a _; rfl)]
theorem el_lcT {σ : L2.St} {H : Hp} {a : Addr} {xs : List V} {tl te : TE} {t : TT} {j : Nat} {vs : List Nat} (f : Nat → Bool) (v : Nat → V) (h : Ev tl σ H (.ref a)) (hx : SqT K H a xs) (hz : xs.length ≤ 40000)
    (hw : ∀ x, wipe ((wipe σ vs).set j (some x)) vs = wipe σ vs) (ht : ∀ (i : Nat) (x : V) H1, Ex H H1 → xs[i]? = some x → EvT t ((wipe σ vs).set j (some x)) H1 (f i))
    (he : ∀ (i : Nat) (x : V) H1, Ex H H1 → xs[i]? = some x → f i = true → Ev te ((wipe σ vs).set j (some x)) H1 (v i)) : EvL (tLc (iTup K tl) (gName j) t te vs) σ H (given xs.length f v) := by
  intro H0 e Q q
  refine h H0 e _ fun H1 e1 => ?_
  have e01 := e.trans e1
  refine ⟨a, rfl, ⟨xs, ex_t e01 hx⟩, fun Dl hD => lc_tup (xs := xs) (Cw H1 f v Dl) ⟨hD, Ex.new hD, upd_same⟩ (fun i H' _ p => ex_t (e01.trans p.2.1) hx) ?_ ?_⟩
  · intro i x H' hi p
    have hlt := (List.getElem?_eq_some_iff.mp hi).1
    exact ⟨hw x, cw_turn p (by omega) (ht i x H1 e01 hi) (fun hf => he i x H1 e01 hi hf)⟩
  · exact fun H' p => q Dl H' (fresh_back e1 p.1) (e1.trans p.2.1) p.2.2
theorem el_lcL {σ : L2.St} {H : Hp} {a : Addr} {xs : List V} {tl te : TE} {t : TT} {j : Nat} {vs : List Nat} (f : Nat → Bool) (v : Nat → V) (h : Ev tl σ H (.ref a)) (hx : SqL K H a xs) (hz : xs.length ≤ 40000)
    (hw : ∀ x, wipe ((wipe σ vs).set j (some x)) vs = wipe σ vs) (ht : ∀ (i : Nat) (x : V) H1, Ex H H1 → xs[i]? = some x → EvT t ((wipe σ vs).set j (some x)) H1 (f i))
    (he : ∀ (i : Nat) (x : V) H1, Ex H H1 → xs[i]? = some x → f i = true → Ev te ((wipe σ vs).set j (some x)) H1 (v i)) : EvL (tLc (iList K tl) (gName j) t te vs) σ H (given xs.length f v) := by
  intro H0 e Q q
  refine h H0 e _ fun H1 e1 => ?_
  have e01 := e.trans e1
  refine ⟨a, rfl, ⟨xs, ex_l e01 hx⟩, fun Dl hD => lc_list (xs := xs) (Cw H1 f v Dl) ⟨hD, Ex.new hD, upd_same⟩ (fun i H' _ p => ex_l (e01.trans p.2.1) hx) ?_ ?_⟩
  · intro i x H' hi p
    have hlt := (List.getElem?_eq_some_iff.mp hi).1
    exact ⟨hw x, cw_turn p (by omega) (ht i x H1 e01 hi) (fun hf => he i x H1 e01 hi hf)⟩
  · exact fun H' p => q Dl H' (fresh_back e1 p.1) (e1.trans p.2.1) p.2.2
/-! ### all of a list or tuple are ints from lo on -/
def itemsD : PyData → List PyData
  | .list ds => ds
  | .tuple ds => ds
  | _ => []
/-- an address of a list or a tuple that holds data -/
theorem rd_seq {ok : Addr → Prop} {H : Hp} {n : Nat} {x : V} {d : PyData} (h : Rd K ok H n x d) (s : isSeq d = true) : ∃ a xs, x = .ref a ∧ (SqL K H a xs ∧ d = .list (itemsD d) ∨ SqT K H a xs ∧ d = .tuple (itemsD d)) ∧ xs.length = (itemsD d).length ∧ xs.length ≤ 1000 ∧
    ∀ (i : Nat) (x : V) (e : PyData), xs[i]? = some x → (itemsD d)[i]? = some e → Rd K ok H (n - 1) x e := by
  cases h with
  | lst h ha hl hz all => exact ⟨_, _, rfl, .inl ⟨SqL.of h, rfl⟩, hl, by omega, all⟩
  | tup h ha hl hz all => exact ⟨_, _, rfl, .inr ⟨h, rfl⟩, hl, by omega, all⟩
  | non => cases s
  | bl _ => cases s
  | int _ => cases s
  | str _ _ _ => cases s
def spAreFrom (K : PySem.W.Frag) : Sp := fun vs H Q _ => ∃ x d n ok lo, vs = [x, .int lo] ∧ Rd K ok H n x d ∧ isSeq d = true ∧ ∀ H', Ex H H' → Q (.bl ((itemsD d).all (fromD lo))) H'
theorem ok_are_from (T : TA2 K mg) : FnOk P w K mg base CX0 3 T.are_from.a T.are_from.fd ["values", "low"] (spAreFrom K) := by
  refine T.are_from.F.ok sc_are_from (fun vs H Q E h => ?_) (fun cdv A outer s H vs Q E hr h => ?_)
  · obtain ⟨x, d, n, ok, lo, rfl, _⟩ := h; rfl
  obtain ⟨x, d, n, ok, lo, rfl, h, sq, q⟩ := h
  obtain ⟨a, xs, rfl, hs, hl, hz, all⟩ := rd_seq h sq
  refine ⟨_, (pss_one (ps_ret (pe_callB (kall K rfl) (by rfl) T.z_all (by decide +kernel) (pa_cons (pe_lc (own := [("value", 2)]) (g := gName 2) (by rfl) sc_are_from.nd (kpis K (pv 0)) (blkOk_by (own := [("value", 2)]) (N := ["values", "low", "value"]) (sc := defScope s_are_from) (by decide +kernel)) (fun _ _ _ _ _ => (pg_name (i := 2) sc_are_from.nd rfl (Or.inl rfl))) (fun _ _ _ _ _ => pts_nil) (fun _ _ _ _ _ => (pe_call (ok_is_from T.toTA1) (hr.mono (by decide)) rfl T.is_from.m T.is_from.F.kp T.is_from.b .nil pass0 (pa_cons (pv 2) (pa_cons (pv 1) pa_nil))))) pa_nil)))), ?_⟩
  have fin : ∀ (p : Addr) (H2 : Hp), H p = none → Ex H H2 → H2 p = some (.lst (given xs.length (fun _ => true) (fun i => .bl (fromD lo ((itemsD d).getD i .none))))) → ∃ (a : Addr) (bs : List Bool), [V.ref p] = [V.ref a] ∧ SqL K H2 a (bs.map V.bl) ∧ Q (.bl (bs.all id)) H2 := by
    intro p H2 _ e2 h2
    rw [given_all] at h2
    refine ⟨p, (itemsD d).map (fromD lo), rfl, ?_, ?_⟩
    · have e : (List.range xs.length).map (fun i => V.bl (fromD lo ((itemsD d).getD i .none))) = ((itemsD d).map (fromD lo)).map V.bl := by
        apply List.ext_getElem?
        intro i
        rw [List.getElem?_map, List.getElem?_map, List.getElem?_map]
        by_cases c : i < xs.length
        · rw [List.getElem?_range c, List.getElem?_eq_getElem (show i < (itemsD d).length by omega)]
          simp [List.getD_eq_getElem?_getD, List.getElem?_eq_getElem (show i < (itemsD d).length by omega)]
        · rw [List.getElem?_eq_none (by rw [List.length_range]; omega), List.getElem?_eq_none (show (itemsD d).length ≤ i by omega)]
          rfl
      rw [e] at h2
      exact SqL.of h2
    · rw [List.all_map]
      exact q H2 e2
  have he : ∀ (i : Nat) (x : V) (H1 : Hp), Ex H H1 → xs[i]? = some x → Ev (tCall (spIsFrom K) [] E0 (tCons (tVar 2) (tCons (tVar 1) tNil))) ((wipe (start ["values", "low", "value"] [.ref a, .int lo]) [2]).set 2 (some x)) H1 (.bl (fromD lo ((itemsD d).getD i .none))) := by
    intro i x H1 e1 hx H2 e2 Q2 k2
    have hi := (List.getElem?_eq_some_iff.mp hx).1
    have hd : (itemsD d)[i]? = some ((itemsD d)[i]'(by omega)) := List.getElem?_eq_getElem _
    have r := (all i x _ hx hd).ex (e1.trans e2)
    have g : (itemsD d).getD i .none = (itemsD d)[i]'(by omega) := by rw [List.getD_eq_getElem?_getD, hd]; rfl
    refine ⟨_, rfl, _, rfl, _, _, rfl, r.dat, fun b h1 h2 => ?_⟩
    rw [rd_from r h1 h2, ← g]
    exact k2 H2 (Ex.refl _)
  rcases hs with ⟨hs, _⟩ | ⟨hs, _⟩
  · exact .inl ((el_lcL (t := tYes) (σ := start ["values", "low", "value"] [.ref a, .int lo]) (vs := [2]) (fun _ => true) (fun i => .bl (fromD lo ((itemsD d).getD i .none))) (ev_var rfl) hs (by omega) (fun _ => rfl) (fun i x H1 _ _ H2 _ Q k => k H2 (Ex.refl _)) (fun i x H1 e1 hx _ => he i x H1 e1 hx)) H (Ex.refl _) (fun v H2 => rAll K [v] H2 Q) fin)
  · exact .inr ((el_lcT (t := tYes) (σ := start ["values", "low", "value"] [.ref a, .int lo]) (vs := [2]) (fun _ => true) (fun i => .bl (fromD lo ((itemsD d).getD i .none))) (ev_var rfl) hs (by omega) (fun _ => rfl) (fun i x H1 _ _ H2 _ Q k => k H2 (Ex.refl _)) (fun i x H1 e1 hx _ => he i x H1 e1 hx)) H (Ex.refl _) (fun v H2 => rAll K [v] H2 Q) fin)

/-- what arrangements reckons -/
def arr : Int → List Int → Int
  | _, [] => 1
  | t, p :: r => PySem.W.mcComb (t + p) p * arr (t + p) r
def arrUp (l : List Int) : Int × Int := l.foldl (fun s p => (s.1 * PySem.W.mcComb (s.2 + p) p, s.2 + p)) (1, 0)
theorem arrUp_more {l : List Int} {i : Nat} {z : Int} (h : l[i]? = some z) : arrUp (l.take (i + 1)) = ((arrUp (l.take i)).1 * PySem.W.mcComb ((arrUp (l.take i)).2 + z) z, (arrUp (l.take i)).2 + z) := by
  obtain ⟨hi, e⟩ := List.getElem?_eq_some_iff.mp h
  rw [← List.take_append_getElem hi, e]
  unfold arrUp
  rw [List.foldl_append]
  rfl
theorem arrUp_two (l : List Int) (i : Nat) : (arrUp (l.take i)).2 = (l.take i).sum := by
  have gen : ∀ (m : List Int) (s : Int × Int), (m.foldl (fun s p => (s.1 * PySem.W.mcComb (s.2 + p) p, s.2 + p)) s).2 = s.2 + m.sum := by
    intro m
    induction m with
    | nil => intro s; simp
    | cons a r ih => intro s; rw [List.foldl_cons, ih, List.sum_cons]; exact Int.add_assoc _ _ _
  have g := gen (l.take i) (1, 0)
  unfold arrUp
  rw [g]
  exact Int.zero_add _
theorem nn_sum {l : List Int} (h : ∀ n ∈ l, 0 ≤ n) : 0 ≤ l.sum := by
  induction l with
  | nil => exact Int.le_refl _
  | cons a r ih =>
    rw [List.sum_cons]
    have h1 := h a List.mem_cons_self
    have h2 := ih fun n hn => h n (List.mem_cons_of_mem _ hn)
    omega
theorem part_le {l : List Int} (h : ∀ n ∈ l, 0 ≤ n) {i : Nat} {z : Int} (hz : l[i]? = some z) : 0 ≤ z ∧ 0 ≤ (l.take i).sum ∧ (l.take i).sum + z ≤ l.sum := by
  obtain ⟨hi, e⟩ := List.getElem?_eq_some_iff.mp hz
  have h1 : 0 ≤ z := h z (e ▸ List.getElem_mem hi)
  have h2 : 0 ≤ (l.take i).sum := nn_sum fun n hn => h n (List.mem_of_mem_take hn)
  have h3 : 0 ≤ (l.drop (i + 1)).sum := nn_sum fun n hn => h n (List.mem_of_mem_drop hn)
  have h4 : l.sum = (l.take i).sum + (z + (l.drop (i + 1)).sum) := by
    conv => lhs; rw [← List.take_append_drop i l, List.drop_eq_getElem_cons hi, e]
    rw [List.sum_append, List.sum_cons]
  omega
theorem comb_lt {a b : Int} (ha : 0 ≤ a) (h : a ≤ 64) (hb : 0 ≤ b) (hb2 : b ≤ 64) : 0 ≤ PySem.W.mcComb a b ∧ PySem.W.mcComb a b < 2 ^ 64 := by
  have key : ∀ n : Fin 65, ∀ k : Fin 65, 0 ≤ PySem.W.mcComb (n.val : Int) (k.val : Int) ∧ PySem.W.mcComb (n.val : Int) (k.val : Int) < 2 ^ 64 := by decide +kernel
  have := key ⟨a.toNat, by omega⟩ ⟨b.toNat, by omega⟩
  simpa [Int.toNat_of_nonneg ha, Int.toNat_of_nonneg hb] using this

def intD : PyData → Int
  | .int i => i
  | _ => 0
def intsD (d : PyData) : List Int := (itemsD d).map intD
def partsD (d : PyData) : Bool := isSeq d && (itemsD d).all (fromD 0) && decide ((intsD d).sum ≤ 64)
theorem ints_of {ok : Addr → Prop} {H : Hp} {n : Nat} {xs : List V} : ∀ {ds : List PyData} {xs : List V} {lo : Int}, xs.length = ds.length → (∀ (i : Nat) (x : V) (e : PyData), xs[i]? = some x → ds[i]? = some e → Rd K ok H n x e) → ds.all (fromD lo) = true →
    xs = (ds.map intD).map V.int ∧ ∀ z ∈ ds.map intD, lo ≤ z := by
  intro ds
  induction ds with
  | nil => intro xs lo hl _ _; cases xs with
    | nil => exact ⟨rfl, by simp⟩
    | cons _ _ => cases hl
  | cons d r ih => intro xs lo hl h ha; cases xs with
    | nil => cases hl
    | cons x xs =>
      rw [List.all_cons, Bool.and_eq_true] at ha
      have h0 := h 0 x d rfl rfl
      obtain ⟨e, f⟩ := ih (Nat.succ.inj hl) (fun i x e hx he => h (i + 1) x e hx he) ha.2
      have ha1 := ha.1
      cases h0 with
      | int i =>
        have hi : lo ≤ i := of_decide_eq_true ha1
        refine ⟨?_, ?_⟩
        · rw [List.map_cons, List.map_cons, ← e]; rfl
        · intro z hz
          rcases List.mem_cons.mp hz with rfl | hz
          · exact hi
          · exact f z hz
      | non => cases ha1
      | bl _ => cases ha1
      | str _ _ _ => cases ha1
      | lst _ _ _ _ _ => cases ha1
      | tup _ _ _ _ _ => cases ha1
def spArr (K : PySem.W.Frag) (C : Addr) : Sp := fun vs H Q E => ∃ x d n ok, vs = [x] ∧ Rd K ok H n x d ∧
  (partsD d = true → ∀ H', Ex H H' → Q (.int (arrUp (intsD d)).1) H') ∧
  (partsD d = false → ∀ e H', Ex H H' → H' e = some (.xd [("given", x)]) → E (.ref C) (some e) H')
theorem ok_arrangements (T : TA2 K mg) : FnOk P w K mg base (L2.CX P w) 5 T.arrangements.a T.arrangements.fd ["parts"] (spArr K T.InvalidParts.C) := by
  refine T.arrangements.F.okX sc_arrangements (fun vs H Q E h => ?_) (fun cdv A outer s H vs Q E hr h => ?_)
  · obtain ⟨x, d, n, ok, rfl, _⟩ := h; rfl
  obtain ⟨x, d, n, ok, rfl, h, q1, q2⟩ := h
  refine ⟨_, (pss_cons (ps_if (PW.pt (pw_or (pt_not (pt_val (pe_call (ok_is_list T.toTA1) (hr.mono (by decide)) rfl T.is_list.m T.is_list.F.kp T.is_list.b .nil pass0 (pa_cons (pv 0) pa_nil)))) (pw_or (pt_not (pt_val (pe_call (ok_are_from T) (hr.mono (by decide)) rfl T.are_from.m T.are_from.F.kp T.are_from.b .nil pass0 (pa_cons (pv 0) (pa_cons pe_int pa_nil))))) (pw_or1 (pt_cmpR op_gt (pe_callB (ksum K rfl) (by rfl) T.z_sum (by decide +kernel) (pa_cons (pv 0) pa_nil)) (pe_glob (v := .int 64) rfl T.c_HIGHEST ⟨_, rfl⟩) (nomark _)))))) (pss_one (ps_raise rfl (takes_of rfl rfl rfl rfl) (pmk_oex T.InvalidParts.T T.InvalidParts.iC T.InvalidParts.tI (ok_init_InvalidParts T.InvalidParts) (hr.mono (by decide)) T.InvalidParts.b .nil pass0 rfl T.InvalidParts.gC (by exact (pa_cons (pv 0) pa_nil))))) pss_nil)
    (pss_cons (ps_set (i := 1) sc_arrangements.nd rfl (Or.inl rfl) pe_int)
    (pss_cons (ps_set (i := 2) sc_arrangements.nd rfl (Or.inl rfl) pe_int)
    (pss_cons (ps_for (passes_of rfl) rfl (kpis K (pv 0)) (pg_name (i := 3) sc_arrangements.nd rfl (Or.inl rfl)) (pss_cons (ps_aug (i := 2) sc_arrangements.nd rfl (Or.inl rfl) (pv 3) ip_add)
    (pss_one (ps_aug (i := 1) sc_arrangements.nd rfl (Or.inl rfl) (pe_callBfun cr_comb rfl T.c_comb (pa_cons (pv 2) (pa_cons (pv 3) pa_nil))) ip_mulC))))
    (pss_one (ps_ret (pv 1))))))), ?_⟩
  refine ⟨_, rfl, x, d, n, ok, rfl, .inl h, fun H1 e1 => ⟨isSeq d, rfl, ?_⟩⟩
  cases sq : isSeq d with
  | false => exact ⟨_, rfl, (by show 1 ≤ 1000; decide), fun a ha => raised ha fun e H' ex he => q2 (by unfold partsD; rw [sq]; rfl) e H' (e1.trans ex) he⟩
  | true =>
  have h1 := h.ex e1
  refine ⟨_, rfl, x, d, n, ok, 0, rfl, h1, sq, fun H2 e2 => ⟨_, rfl, ?_⟩⟩
  cases al : (itemsD d).all (fromD 0) with
  | false => exact ⟨_, rfl, (by show 1 ≤ 1000; decide), fun a ha => raised ha fun e H' ex he => q2 (by unfold partsD; rw [sq, al]; rfl) e H' ((e1.trans e2).trans ex) he⟩
  | true =>
  obtain ⟨a, xs, rfl, hs, hl, hz, all⟩ := rd_seq (h1.ex e2) sq
  obtain ⟨hxs, hall⟩ := ints_of (xs := xs) hl all al
  have e12 := e1.trans e2
  obtain ⟨ns, hns⟩ : ∃ ns, ns = intsD d := ⟨_, rfl⟩
  have hxs' : xs = ns.map V.int := by rw [hns]; exact hxs
  rw [hxs'] at hs
  have exs : SqL K H2 a (ns.map V.int) ∨ SqT K H2 a (ns.map V.int) := hs.imp (fun z => z.1) (fun z => z.1)
  have hall : ∀ z ∈ ns, 0 ≤ z := by rw [hns]; exact hall
  refine ⟨_, rfl, a, ns, rfl, exs, _, _, rfl, rfl, _, rfl, ite2 (fun c => ?_) (fun c => ?_)⟩
  · have c' : ¬ ns.sum ≤ 64 := by have := of_decide_eq_true c; omega
    exact ⟨_, rfl, (by show 1 ≤ 1000; decide), fun x hx => raised hx fun e H' ex he => q2 (by unfold partsD; rw [sq, al, ← hns, decide_eq_false c']; rfl) e H' (e12.trans ex) he⟩
  · have c' : ns.sum ≤ 64 := by
      have := of_decide_eq_false (Bool.eq_false_iff.mpr c)
      omega
    have okp : partsD d = true := by unfold partsD; rw [sq, al, ← hns, decide_eq_true c']; rfl
    rw [← hns] at q1
    have turn : ∀ (i : Nat) (x : V) (σ : L2.St), (ns.map V.int)[i]? = some x → (∃ v, σ = [some (.ref a), some (.int (arrUp (ns.take i)).1), some (.int (arrUp (ns.take i)).2), v]) →
        gName 3 x σ H2 fun σ2 H3 => tSeq (tAug 2 (tVar 3) (ipI fun i j => i + j)) (tAug 1 (tCB rComb (tCons (tVar 2) (tCons (tVar 3) tNil))) (fun x y H Q => ∃ i j, x = .int i ∧ y = .int j ∧ CMul i j ∧ Q (.int (i * j)) H))
          { nx := fun σ' H' => H' = H2 ∧ ∃ v, σ' = [some (.ref a), some (.int (arrUp (ns.take (i + 1))).1), some (.int (arrUp (ns.take (i + 1))).2), v], rt := Q } σ2 H3 := by
      rintro i x σ hx ⟨v, rfl⟩
      obtain ⟨z, hz, rfl⟩ := ints_get hx
      have hp := part_le hall hz
      have hm := arrUp_more hz
      have h2 := arrUp_two ns i
      have hc := @comb_lt ((arrUp (ns.take i)).2 + z) z (by omega) (by omega) hp.1 (by omega)
      refine ⟨_, rfl, _, rfl, _, _, rfl, rfl, ?_⟩
      refine ⟨_, rfl, _, rfl, _, rfl, _, _, rfl, (show 0 ≤ (arrUp (ns.take i)).2 + z by omega), (show (arrUp (ns.take i)).2 + z ≤ 1000 by omega), hp.1, by omega, _, _, rfl, rfl, .inr ⟨(show -(2 ^ 64) < PySem.W.mcComb ((arrUp (ns.take i)).2 + z) z by omega), hc.2⟩, rfl, some (.int z), ?_⟩
      rw [hm]
      rfl
    have fin : ∀ σ H', (H' = H2 ∧ ∃ v, σ = [some (.ref a), some (.int (arrUp (ns.take (ns.map V.int).length)).1), some (.int (arrUp (ns.take (ns.map V.int).length)).2), v]) → tRet (tVar 1) { nx := fun _ H' => Q .non H', rt := Q } σ H' := by
      rintro σ H' ⟨rfl, v, rfl⟩
      rw [List.length_map, List.take_length]
      exact ⟨_, rfl, q1 okp _ e12⟩
    rcases exs with hs2 | hs2
    · exact .inl ⟨_, rfl, a, rfl, ⟨_, hs2⟩, for_list (xs := ns.map V.int) (fun i σ H' => H' = H2 ∧ ∃ v, σ = [some (.ref a), some (.int (arrUp (ns.take i)).1), some (.int (arrUp (ns.take i)).2), v]) ⟨rfl, none, rfl⟩
        (fun i σ H' _ ⟨e, _⟩ => e ▸ hs2) (fun i x σ H' hx ⟨e, hv⟩ => e ▸ turn i x σ hx hv) fin⟩
    · exact .inr ⟨_, rfl, a, rfl, ⟨_, hs2⟩, for_tup (xs := ns.map V.int) (fun i σ H' => H' = H2 ∧ ∃ v, σ = [some (.ref a), some (.int (arrUp (ns.take i)).1), some (.int (arrUp (ns.take i)).2), v]) ⟨rfl, none, rfl⟩
        (fun i σ H' _ ⟨e, _⟩ => e ▸ hs2) (fun i x σ H' hx ⟨e, hv⟩ => e ▸ turn i x σ hx hv) fin⟩

def mostA (t r s : Int) : Int := if t - s < r then 0 else (arrUp (evenOf (t - s) r ++ [s])).1
def spMost (K : PySem.W.Frag) (C D F : Addr) : Sp := fun vs H Q E => ∃ x y z dx dy dz n ok, vs = [x, y, z] ∧ Rd K ok H n x dx ∧ Rd K ok H n y dy ∧ Rd K ok H n z dz ∧
  (num64 dx = true → many64 dy = true → num64 dz = true → ∀ H', Ex H H' → Q (.int (mostA (intD dx) (intD dy) (intD dz))) H') ∧
  (num64 dx = false → ∀ e H', Ex H H' → H' e = some (.xd [("given", x)]) → E (.ref C) (some e) H') ∧
  (num64 dx = true → many64 dy = false → ∀ e H', Ex H H' → H' e = some (.xd [("given", y)]) → E (.ref D) (some e) H') ∧
  (num64 dx = true → many64 dy = true → num64 dz = false → ∀ e H', Ex H H' → H' e = some (.xd [("given", z)]) → E (.ref F) (some e) H')
theorem even_sum {i j : Int} (h0 : 0 ≤ i) (hj : 1 ≤ j) : (evenOf i j).length = j.toNat ∧ (evenOf i j).sum = i ∧ ∀ x ∈ evenOf i j, 0 ≤ x := by
  have d2 : i / j * j ≤ i := Int.ediv_mul_le _ (by omega)
  have d0 : 0 ≤ i / j := Int.ediv_nonneg h0 (by omega)
  have d3 : i - i / j * j < j := by
    have := Int.lt_ediv_add_one_mul_self i (show 0 < j by omega)
    have e : (i / j + 1) * j = i / j * j + j := by rw [Int.add_mul, Int.one_mul]
    omega
  generalize hg : i - i / j * j = g at *
  have sums : ∀ (n : Nat) (x : Int), (List.replicate n x).sum = n * x := by
    intro n x
    induction n with
    | zero => simp
    | succ n ih => rw [List.replicate_succ, List.sum_cons, ih]; rw [Int.natCast_succ, Int.add_mul, Int.one_mul, Int.add_comm]
  unfold evenOf
  rw [hg]
  refine ⟨by rw [List.length_append, List.length_replicate, List.length_replicate]; omega, ?_, ?_⟩
  · rw [List.sum_append, sums, sums, Int.toNat_of_nonneg (by omega), Int.toNat_of_nonneg (by omega), Int.mul_add, Int.sub_mul, Int.mul_one, Int.mul_comm j]
    omega
  · intro x hx
    rw [List.mem_append] at hx
    rcases hx with hx | hx
    · rw [List.eq_of_mem_replicate hx]; omega
    · rw [List.eq_of_mem_replicate hx]; omega
theorem okr_most_arranged (T : TA2 K mg) : FnOk P w K mg base (L2.CX P w) 6 T.most_arranged.a T.most_arranged.fd ["total", "rounds", "rest"] (spMost K T.InvalidNumber.C T.InvalidMany.C T.InvalidRest.C) := by
  refine T.most_arranged.F.okX sc_most_arranged (fun vs H Q E h => ?_) (fun cdv A outer s H vs Q E hr h => ?_)
  · obtain ⟨x, y, z, dx, dy, dz, n, ok, rfl, _⟩ := h; rfl
  obtain ⟨x, y, z, dx, dy, dz, n, ok, rfl, hx, hy, hz, q1, q2, q3, q4⟩ := h
  refine ⟨_, (pss_cons (ps_expr (by exact (pe_callS (ok_check_number T) (hr.mono (by decide)) rfl T.check_number.m T.check_number.F.kp T.check_number.b (fun σ => passAt (takes_of rfl rfl rfl rfl) σ) (pa_cons (pv 0) pa_nil))))
    (pss_cons (ps_expr (by exact (pe_callS (ok_check_many T) (hr.mono (by decide)) rfl T.check_many.m T.check_many.F.kp T.check_many.b (fun σ => passAt (takes_of rfl rfl rfl rfl) σ) (pa_cons (pv 1) pa_nil))))
    (pss_cons (ps_if (pt_not (pt_val (pe_call (ok_is_between T.toTA1) (hr.mono (by decide)) rfl T.is_between.m T.is_between.F.kp T.is_between.b .nil pass0 (pa_cons (pv 2) (pa_cons pe_int (pa_cons (pe_glob (v := .int 64) rfl T.c_HIGHEST ⟨_, rfl⟩) pa_nil)))))) (pss_one (ps_raise rfl (takes_of rfl rfl rfl rfl) (pmk_oex T.InvalidRest.T T.InvalidRest.iC T.InvalidRest.tI (ok_init_InvalidRest T.InvalidRest) (hr.mono (by decide)) T.InvalidRest.b .nil pass0 rfl T.InvalidRest.gC (by exact (pa_cons (pv 2) pa_nil))))) pss_nil)
    (pss_cons (ps_if (pt_cmpR op_lt (pe_op op_sub (pv 0) (pv 2)) (pv 1) (nomark _)) (pss_one (ps_ret pe_int)) pss_nil)
    (pss_one (ps_ret (by exact (pe_callS (ok_arrangements T) (hr.mono (by decide)) rfl T.arrangements.m T.arrangements.F.kp T.arrangements.b (fun σ => passAt (takes_of rfl rfl rfl rfl) σ) (pa_cons (pe_op (kcatA K) (by exact (pe_callS (ok_even_parts T) (hr.mono (by decide)) rfl T.even_parts.m T.even_parts.F.kp T.even_parts.b (fun σ => passAt (takes_of rfl rfl rfl rfl) σ) (pa_cons (pe_op op_sub (pv 0) (pv 2)) (pa_cons (pv 1) pa_nil)))) (pe_tup (pa_cons (pv 2) pa_nil))) pa_nil))))))))), ?_⟩
  refine ⟨_, rfl, x, dx, n, ok, rfl, hx, fun c H1 e1 => ?_, fun no e H1 e1 he => q2 no e H1 e1 he⟩
  refine ⟨_, rfl, y, dy, n, ok, rfl, hy.ex e1, fun c2 H2 e2 => ?_, fun no e H2 e2 he => q3 c no e H2 (e1.trans e2) he⟩
  have e12 := e1.trans e2
  obtain ⟨i, rfl, rfl, i0, i1⟩ := betw_int hx c
  obtain ⟨j, rfl, rfl, j0, j1⟩ := betw_int hy c2
  have hz2 := hz.ex e12
  refine ⟨_, rfl, _, _, _, rfl, hz2.dat, fun b h1 h2 => ⟨b, rfl, ?_⟩⟩
  have hb := rd_betw hz2 h1 h2
  subst hb
  cases c3 : betwD 0 64 dz with
  | false => exact ⟨_, rfl, (by show 1 ≤ 1000; decide), fun a ha => raised ha fun e H' ex he => q4 c c2 c3 e H' (e12.trans ex) he⟩
  | true =>
  obtain ⟨k, rfl, rfl, k0, k1⟩ := betw_int hz c3
  have q := q1 c c2 c3
  refine ⟨_, rfl, _, rfl, _, _, rfl, rfl, _, rfl, _, _, rfl, rfl, _, rfl, ite2 (fun c4 => ?_) (fun c4 => ?_)⟩
  · have := of_decide_eq_true c4
    have e : mostA (intD (.int i)) (intD (.int j)) (intD (.int k)) = 0 := if_pos this
    rw [e] at q
    exact q _ e12
  · have c5 : ¬ (i - k < j) := of_decide_eq_false (Bool.eq_false_iff.mpr c4)
    have e : mostA (intD (.int i)) (intD (.int j)) (intD (.int k)) = (arrUp (evenOf (i - k) j ++ [k])).1 := if_neg c5
    rw [e] at q
    have cn : num64 (.int (i - k)) = true := decide_eq_true ⟨by omega, by omega⟩
    refine ⟨_, rfl, _, rfl, _, _, rfl, rfl, _, rfl, .int (i - k), .int j, .int (i - k), .int j, 0, fun _ => True, rfl, .int _, .int _, fun _ _ p H3 e3 hp => ?_, fun no => absurd cn (by rw [no]; decide), fun _ no => absurd c2 (by rw [no]; decide)⟩
    have hp3 := hp _ _ rfl rfl
    obtain ⟨f1, f2, f3⟩ := even_sum (i := i - k) (j := j) (by omega) (by omega)
    refine ⟨_, rfl, (by show 1 ≤ sizeLine; decide), fun p2 hp2 => ?_⟩
    have e4 := Ex.new (o := .tup [.int k]) hp2
    have ds : ((evenOf (i - k) j).map V.int ++ [V.int k]) = (evenOf (i - k) j ++ [k]).map V.int := by rw [List.map_append]; rfl
    have lenE : (evenOf (i - k) j ++ [k]).length ≤ 900 := by rw [List.length_append, f1]; show _ + 1 ≤ 900; omega
    have sumE : (evenOf (i - k) j ++ [k]).sum = i := by rw [List.sum_append, f2]; simp
    have allE : ∀ x ∈ evenOf (i - k) j ++ [k], 0 ≤ x := by
      intro x hx
      rcases List.mem_append.mp hx with h | h
      · exact f3 x h
      · obtain rfl := List.mem_singleton.mp h; exact k0
    have go : ∀ (p5 : Addr) (H5 : Hp), Ex H H5 → SqT K H5 p5 ((evenOf (i - k) j ++ [k]).map V.int) → spArr K T.InvalidParts.C [.ref p5] H5 Q E := by
      intro p5 H5 e5 h5
      have ri : Rd K (fun _ => True) H5 1 (.ref p5) (.tuple ((evenOf (i - k) j ++ [k]).map PyData.int)) := .tup h5 trivial (by rw [List.length_map, List.length_map]) (by rw [List.length_map]; exact lenE) fun m x d hx hd => by
        obtain ⟨z, hz, rfl⟩ := ints_get hx
        rw [List.getElem?_map, hz] at hd
        obtain rfl := Option.some.inj hd
        exact .int z
      have ii : intsD (.tuple ((evenOf (i - k) j ++ [k]).map PyData.int)) = evenOf (i - k) j ++ [k] := by
        show ((evenOf (i - k) j ++ [k]).map PyData.int).map intD = _
        rw [List.map_map]
        exact List.map_id _
      have pd : partsD (.tuple ((evenOf (i - k) j ++ [k]).map PyData.int)) = true := by
        unfold partsD
        rw [ii, decide_eq_true (by rw [sumE]; exact i1), Bool.and_true, Bool.and_eq_true]
        refine ⟨rfl, ?_⟩
        show ((evenOf (i - k) j ++ [k]).map PyData.int).all (fromD 0) = true
        rw [List.all_eq_true]
        intro d hd
        obtain ⟨z, hz, rfl⟩ := List.mem_map.mp hd
        exact decide_eq_true (allE z hz)
      refine ⟨_, _, _, _, rfl, ri, fun _ H6 e6 => ?_, fun no => absurd pd (by rw [no]; decide)⟩
      rw [ii]
      exact q _ (e5.trans e6)
    have e34 := (e12.trans e3).trans e4
    refine ⟨p, p2, _, _, rfl, rfl, ex_t e4 hp3, st_of upd_same, ?_, ?_, ?_, ?_⟩
    · rw [List.length_map, f1]; exact Nat.le_trans (show _ + 1 ≤ 1000 by omega) (by decide)
    · intro z
      refine go p2 _ e34 ?_
      rw [← ds, z]
      exact st_of upd_same
    · intro _ z; cases z
    · intro _ _ p5 hp5
      refine go p5 _ (e34.trans (Ex.new hp5)) ?_
      rw [← ds]
      exact st_of upd_same

def spAreBetween (K : PySem.W.Frag) : Sp := fun vs H Q _ => ∃ x d n ok lo hi, vs = [x, .int lo, .int hi] ∧ Rd K ok H n x d ∧ isSeq d = true ∧ ∀ H', Ex H H' → Q (.bl ((itemsD d).all (betwD lo hi))) H'
theorem ok_are_between (T : TA2 K mg) : FnOk P w K mg base CX0 3 T.are_between.a T.are_between.fd ["values", "low", "high"] (spAreBetween K) := by
  refine T.are_between.F.ok sc_are_between (fun vs H Q E h => ?_) (fun cdv A outer s H vs Q E hr h => ?_)
  · obtain ⟨x, d, n, ok, lo, hi, rfl, _⟩ := h; rfl
  obtain ⟨x, d, n, ok, lo, hi, rfl, h, sq, q⟩ := h
  obtain ⟨a, xs, rfl, hs, hl, hz, all⟩ := rd_seq h sq
  refine ⟨_, (pss_one (ps_ret (pe_callB (kall K rfl) (by rfl) T.z_all (by decide +kernel) (pa_cons (pe_lc (own := [("value", 3)]) (g := gName 3) (by rfl) sc_are_between.nd (kpis K (pv 0)) (blkOk_by (own := [("value", 3)]) (N := ["values", "low", "high", "value"]) (sc := defScope s_are_between) (by decide +kernel)) (fun _ _ _ _ _ => (pg_name (i := 3) sc_are_between.nd rfl (Or.inl rfl))) (fun _ _ _ _ _ => pts_nil) (fun _ _ _ _ _ => (pe_call (ok_is_between T.toTA1) (hr.mono (by decide)) rfl T.is_between.m T.is_between.F.kp T.is_between.b .nil pass0 (pa_cons (pv 3) (pa_cons (pv 1) (pa_cons (pv 2) pa_nil)))))) pa_nil)))), ?_⟩
  have fin : ∀ (p : Addr) (H2 : Hp), H p = none → Ex H H2 → H2 p = some (.lst (given xs.length (fun _ => true) (fun i => .bl (betwD lo hi ((itemsD d).getD i .none))))) → ∃ (a : Addr) (bs : List Bool), [V.ref p] = [V.ref a] ∧ SqL K H2 a (bs.map V.bl) ∧ Q (.bl (bs.all id)) H2 := by
    intro p H2 _ e2 h2
    rw [given_all] at h2
    refine ⟨p, (itemsD d).map (betwD lo hi), rfl, ?_, ?_⟩
    · have e : (List.range xs.length).map (fun i => V.bl (betwD lo hi ((itemsD d).getD i .none))) = ((itemsD d).map (betwD lo hi)).map V.bl := by
        apply List.ext_getElem?
        intro i
        rw [List.getElem?_map, List.getElem?_map, List.getElem?_map]
        by_cases c : i < xs.length
        · rw [List.getElem?_range c, List.getElem?_eq_getElem (show i < (itemsD d).length by omega)]
          simp [List.getD_eq_getElem?_getD, List.getElem?_eq_getElem (show i < (itemsD d).length by omega)]
        · rw [List.getElem?_eq_none (by rw [List.length_range]; omega), List.getElem?_eq_none (show (itemsD d).length ≤ i by omega)]
          rfl
      rw [e] at h2
      exact SqL.of h2
    · rw [List.all_map]
      exact q H2 e2
  have he : ∀ (i : Nat) (x : V) (H1 : Hp), Ex H H1 → xs[i]? = some x → Ev (tCall (spIsBetween K) [] E0 (tCons (tVar 3) (tCons (tVar 1) (tCons (tVar 2) tNil)))) ((wipe (start ["values", "low", "high", "value"] [.ref a, .int lo, .int hi]) [3]).set 3 (some x)) H1 (.bl (betwD lo hi ((itemsD d).getD i .none))) := by
    intro i x H1 e1 hx H2 e2 Q2 k2
    have hi := (List.getElem?_eq_some_iff.mp hx).1
    have hd : (itemsD d)[i]? = some ((itemsD d)[i]'(by omega)) := List.getElem?_eq_getElem _
    have r := (all i x _ hx hd).ex (e1.trans e2)
    have g : (itemsD d).getD i .none = (itemsD d)[i]'(by omega) := by rw [List.getD_eq_getElem?_getD, hd]; rfl
    refine ⟨_, rfl, _, rfl, _, rfl, _, _, _, rfl, r.dat, fun b h1 h2 => ?_⟩
    rw [rd_betw r h1 h2, ← g]
    exact k2 H2 (Ex.refl _)
  rcases hs with ⟨hs, _⟩ | ⟨hs, _⟩
  · exact .inl ((el_lcL (t := tYes) (σ := start ["values", "low", "high", "value"] [.ref a, .int lo, .int hi]) (vs := [3]) (fun _ => true) (fun i => .bl (betwD lo hi ((itemsD d).getD i .none))) (ev_var rfl) hs (by omega) (fun _ => rfl) (fun i x H1 _ _ H2 _ Q k => k H2 (Ex.refl _)) (fun i x H1 e1 hx _ => he i x H1 e1 hx)) H (Ex.refl _) (fun v H2 => rAll K [v] H2 Q) fin)
  · exact .inr ((el_lcT (t := tYes) (σ := start ["values", "low", "high", "value"] [.ref a, .int lo, .int hi]) (vs := [3]) (fun _ => true) (fun i => .bl (betwD lo hi ((itemsD d).getD i .none))) (ev_var rfl) hs (by omega) (fun _ => rfl) (fun i x H1 _ _ H2 _ Q k => k H2 (Ex.refl _)) (fun i x H1 e1 hx _ => he i x H1 e1 hx)) H (Ex.refl _) (fun v H2 => rAll K [v] H2 Q) fin)


theorem rdl_ints {ok : Addr → Prop} {H : Hp} {n : Nat} (ns : List Int) : RdL K ok H n (ns.map V.int) (ns.map PyData.int) := by
  refine ⟨by rw [List.length_map, List.length_map], fun i x d hx hd => ?_⟩
  obtain ⟨z, hz, rfl⟩ := ints_get hx
  rw [List.getElem?_map, hz] at hd
  obtain rfl := Option.some.inj hd
  exact .int z
/-- the greatest arrangements of i kinds in j parts -/
def gr (i j : Int) : Int := (arrUp (evenOf i j)).1
theorem ints_dat (ns : List Int) : intsD (.tuple (ns.map PyData.int)) = ns := by
  unfold intsD itemsD
  rw [List.map_map]
  exact List.map_id _
theorem parts_dat {ns : List Int} (h0 : ∀ x ∈ ns, 0 ≤ x) (h : ns.sum ≤ 64) : partsD (.tuple (ns.map PyData.int)) = true := by
  unfold partsD
  rw [ints_dat, decide_eq_true h, Bool.and_true]
  show (true && (ns.map PyData.int).all (fromD 0)) = true
  rw [Bool.true_and, List.all_eq_true]
  intro x hx
  obtain ⟨z, hz, rfl⟩ := List.mem_map.mp hx
  exact decide_eq_true (h0 z hz)
end
end L2.U

set_option Elab.async false
set_option linter.all false
set_option maxRecDepth 100000
set_option maxHeartbeats 4000000
namespace L2.U
open PySem PySem.Spec PyProof.Rows Evl

section
variable {P : Program} {w : World} {K : PySem.W.Frag} {mg : Str → Option Value} {base : Heap}
/-- what never raises -/
theorem fn_calm {k : Nat} {f : Addr} {fd : FuncData} {ps : List Str} {sp sp' : Sp} (F : FnOk P w K mg base (L2.CX P w) k f fd ps sp) (h : ∀ vs H Q E, sp' vs H Q E → sp vs H Q E0) : FnOk P w K mg base CX0 k f fd ps sp' := by
  refine ⟨fun vs H Q E q => F.len vs H Q E0 (h _ _ _ _ q), fun A outer s H args us vs Q E hr he hb hv hs => codeAny_mono (F.run A outer s H args us vs Q E0 hr he hb hv (h _ _ _ _ hs)) fun r s' hq => ?_⟩
  cases r with
  | error e =>
    obtain ⟨_, _, _, _, _, _, _, _, _, _, _, _, hE⟩ := hq
    exact hE.elim
  | ok fl => cases fl <;> exact hq
def spMostI : Sp := fun vs H Q _ => ∃ t r s : Int, vs = [.int t, .int r, .int s] ∧ 0 ≤ t ∧ t ≤ 64 ∧ 1 ≤ r ∧ r ≤ 64 ∧ 0 ≤ s ∧ s ≤ 64 ∧ ∀ H', Ex H H' → Q (.int (mostA t r s)) H'
theorem ok_most_arranged (T : TA2 K mg) : FnOk P w K mg base CX0 6 T.most_arranged.a T.most_arranged.fd ["total", "rounds", "rest"] spMostI := fn_calm (okr_most_arranged T) fun vs H Q E h => by
  obtain ⟨t, r, s, rfl, t0, t1, r0, r1, s0, s1, q⟩ := h
  have n1 : num64 (.int t) = true := decide_eq_true ⟨t0, t1⟩
  have n2 : many64 (.int r) = true := decide_eq_true ⟨r0, r1⟩
  have n3 : num64 (.int s) = true := decide_eq_true ⟨s0, s1⟩
  exact ⟨.int t, .int r, .int s, .int t, .int r, .int s, 0, fun _ => True, rfl, .int _, .int _, .int _, fun _ _ _ => q, fun no => absurd n1 (by rw [no]; decide), fun _ no => absurd n2 (by rw [no]; decide), fun _ _ no => absurd n3 (by rw [no]; decide)⟩
theorem RdL.of {ok ok' : Addr → Prop} {H : Hp} {n : Nat} {xs : List V} {ds : List PyData} (w : ∀ a, ok a → ok' a) (h : RdL K ok H n xs ds) : RdL K ok' H n xs ds := ⟨h.1, fun i x d hx hd => (h.2 i x d hx hd).of w⟩
theorem RdL.snoc {ok : Addr → Prop} {H : Hp} {n : Nat} {xs : List V} {ds : List PyData} {x : V} {d : PyData} (h : RdL K ok H n xs ds) (r : Rd K ok H n x d) : RdL K ok H n (xs ++ [x]) (ds ++ [d]) := by
  refine ⟨by rw [List.length_append, List.length_append, h.1]; rfl, fun i y e hy he => ?_⟩
  by_cases c : i < xs.length
  · rw [List.getElem?_append_left c] at hy
    rw [List.getElem?_append_left (by rw [← h.1]; exact c)] at he
    exact h.2 i y e hy he
  · have hi := (List.getElem?_eq_some_iff.mp hy).1
    rw [List.length_append, List.length_singleton] at hi
    have e1 : i = xs.length := by omega
    subst e1
    rw [List.getElem?_append_right (Nat.le_refl _), Nat.sub_self] at hy
    rw [h.1, List.getElem?_append_right (Nat.le_refl _), Nat.sub_self] at he
    cases Option.some.inj hy
    cases Option.some.inj he
    exact r
theorem tyes {σ : L2.St} {H : Hp} {F G : Hp → Prop} (h : F H) : tYes σ H (fun b H3 => if b = true then F H3 else G H3) := by
  show if true = true then F H else G H
  rw [if_pos rfl]
  exact h
/-- a comprehension over a range that makes data -/
theorem lc_rd {σ : L2.St} {H : Hp} {ta : TA} {te : TE} {j m : Nat} {vs : List Nat} {n : Int} {d : Nat → PyData} (h : EvA ta σ H [.int n]) (hn : 0 ≤ n ∧ n ≤ 900) (hw : ∀ x, wipe ((wipe σ vs).set j (some x)) vs = wipe σ vs)
    (he : ∀ (i : Nat) H1, Ex H H1 → (i : Int) < n → ∀ Q : VK, (∀ x H2, Ex H1 H2 → Rd K (fun a => H1 a = none) H2 m x (d i) → Q x H2) → te ((wipe σ vs).set j (some (.int (i : Int)))) H1 Q)
    {Q : VK} (q : ∀ p H', Ex H H' → Rd K (fun a => H a = none) H' (m + 1) (.ref p) (.list ((List.range n.toNat).map d)) → Q (.ref p) H') : tLc (iRng1 ta) (gName j) tYes te vs σ H Q := by
  refine h H (Ex.refl _) _ fun H1 e1 => ⟨n, rfl, by omega, by omega, fun D hD => ?_⟩
  refine lc_range (lo := 0) (n := n.toNat) (fun i H' => Ex H1 H' ∧ ∃ xs, H' D = some (.lst xs) ∧ xs.length = i ∧ RdL K (fun a => H1 a = none ∧ a ≠ D) H' m xs ((List.range i).map d)) ⟨Ex.new hD, [], upd_same, rfl, rfl, fun i x e hx _ => by cases hx⟩ (fun i H' hi p => ⟨hw _, ?_⟩) (fun H' p => ?_)
  · obtain ⟨p1, xs, p2, p3, p4⟩ := p
    have e0 : (0 : Int) + (i : Int) = (i : Int) := Int.zero_add _
    show tYes _ H' (fun b H3 => if b = true then te ((wipe σ vs).set j (some (.int ((0 : Int) + (i : Int))))) H3 fun y H4 => ∃ acc, H4 D = some (.lst acc) ∧ acc.length < sizeLine ∧ _ else _)
    rw [e0]
    refine tyes ?_
    refine he i H' (e1.trans p1) (by omega) _ fun x H2 e2 rx => ⟨xs, e2 _ _ p2, small1000 (by omega), (p1.trans e2).mut hD, xs ++ [x], upd_same, by rw [List.length_append, p3]; rfl, ?_⟩
    rw [List.range_succ, List.map_append]
    refine RdL.snoc ?_ ?_
    · have r1 := p4.ex e2
      exact r1.but (b := D) But.upd (fun a ha => ha.2)
    · have nD : ∀ a, H' a = none → H1 a = none ∧ a ≠ D := fun a ha => ⟨fresh_back p1 ha, fun z => by rw [z, p2] at ha; cases ha⟩
      exact (rx.of nD).but (b := D) But.upd (fun a ha => ha.2)
  · obtain ⟨p1, xs, p2, p3, p4⟩ := p
    have fr : ∀ a, H1 a = none → H a = none := fun a ha => fresh_back e1 ha
    have r := p4.of (ok' := fun a => H a = none) (fun a ha => fr a ha.1)
    exact q D H' (e1.trans p1) (.lst p2 (fr D hD) r.1 (by omega) r.2)
theorem el_lcR2 {σ : L2.St} {H : Hp} {ta : TA} {t : TT} {te : TE} {j : Nat} {vs : List Nat} {lo n : Int} (f : Nat → Bool) (v : Nat → V) (h : EvA ta σ H [.int lo, .int n]) (hn : 0 ≤ lo ∧ lo ≤ 40000 ∧ -40000 ≤ n ∧ n ≤ 40000) (hw : ∀ x, wipe ((wipe σ vs).set j (some x)) vs = wipe σ vs)
    (ht : ∀ (i : Nat) H1, Ex H H1 → lo + (i : Int) < n → EvT t ((wipe σ vs).set j (some (.int (lo + (i : Int))))) H1 (f i)) (he : ∀ (i : Nat) H1, Ex H H1 → lo + (i : Int) < n → f i = true → Ev te ((wipe σ vs).set j (some (.int (lo + (i : Int))))) H1 (v i)) :
    EvL (tLc (iRng2 ta) (gName j) t te vs) σ H (given (n - lo).toNat f v) := fun H0 e Q q => h H0 e _ fun H1 e1 => ⟨lo, n, rfl, ⟨by omega, by omega, by omega, by omega⟩, fun Dl hD =>
  lc_range (lo := lo) (n := (n - lo).toNat) (Cw H1 f v Dl) ⟨hD, Ex.new hD, upd_same⟩ (fun i H' hi p => ⟨hw _, cw_turn p (by omega) (ht i H1 (e.trans e1) (by omega)) (fun hf => he i H1 (e.trans e1) (by omega) hf)⟩) (fun H' p => q Dl H' (fresh_back e1 p.1) (e1.trans p.2.1) p.2.2)⟩
/-! ### what is told by kinds -/
def toldBy (k r : Nat) : List Int := (List.range (k - r)).map fun i : Nat => mostA (k : Int) ((i : Int) + 1) (r : Int)
def listI (l : List Int) : PyData := .list (l.map PyData.int)
def toldK (m : Nat) : List (List (List Int)) := (List.range (m + 1)).map fun k => (List.range k).map fun r => toldBy k r
def list2 (l : List (List Int)) : PyData := .list (l.map listI)
def list3 (l : List (List (List Int))) : PyData := .list (l.map list2)
def spToldBy (K : PySem.W.Frag) : Sp := fun vs H Q _ => ∃ k r : Nat, vs = [.int (k : Int), .int (r : Int)] ∧ k ≤ 16 ∧ r < k ∧ ∀ p H', Ex H H' → Rd K (fun a => H a = none) H' 1 (.ref p) (listI (toldBy k r)) → Q (.ref p) H'
theorem ok_told_by (T : TA2 K mg) : FnOk P w K mg base CX0 7 T.told_by.a T.told_by.fd ["kinds", "rest"] (spToldBy K) := by
  refine T.told_by.F.ok sc_told_by (fun vs H Q E h => ?_) (fun cdv A outer s H vs Q E hr h => ?_)
  · obtain ⟨k, r, rfl, _⟩ := h; rfl
  obtain ⟨k, r, rfl, hk, hrk, q⟩ := h
  refine ⟨_, (pss_one (ps_ret (pe_lc (own := [("rounds", 2)]) (g := gName 2) (by rfl) sc_told_by.nd (pi_range2 rfl T.z_range (pa_cons pe_int (pa_cons (pe_op op_add (pe_op op_sub (pv 0) (pv 1)) pe_int) pa_nil))) (blkOk_by (own := [("rounds", 2)]) (N := ["kinds", "rest", "rounds"]) (sc := defScope s_told_by) (by decide +kernel)) (fun _ _ _ _ _ => (pg_name (i := 2) sc_told_by.nd rfl (Or.inl rfl))) (fun _ _ _ _ _ => pts_nil) (fun _ _ _ _ _ => (pe_call (ok_most_arranged T) (hr.mono (by decide)) rfl T.most_arranged.m T.most_arranged.F.kp T.most_arranged.b .nil pass0 (pa_cons (pv 0) (pa_cons (pv 2) (pa_cons (pv 1) pa_nil)))))))), ?_⟩
  have one : ∀ (i : Nat) H1, Ex H H1 → (1 : Int) + (i : Int) < ((k : Int) - (r : Int)) + 1 → true = true → Ev (tCall spMostI [] E0 (tCons (tVar 0) (tCons (tVar 2) (tCons (tVar 1) tNil)))) ((wipe [some (.int (k : Int)), some (.int (r : Int)), none] [2]).set 2 (some (.int ((1 : Int) + (i : Int))))) H1 (.int (mostA (k : Int) ((1 : Int) + (i : Int)) (r : Int))) :=
    fun i H1 e1 hi _ H2 e2 Q2 k2 => ⟨_, rfl, _, rfl, _, rfl, _, _, _, rfl, by omega, by omega, by omega, by omega, by omega, by omega, fun H3 e3 => k2 H3 e3⟩
  refine (el_lcR2 (σ := [some (.int (k : Int)), some (.int (r : Int)), none]) (vs := [2]) (t := tYes) (fun _ => true) (fun i => .int (mostA (k : Int) ((1 : Int) + (i : Int)) (r : Int))) (ea_cons ev_c (ea_cons (ev_op (ev_op (ev_var rfl) (ev_var rfl) rv_I0) ev_c rv_I0) ea_nil)) ⟨by decide, by decide, by omega, by omega⟩ (fun _ => rfl) (fun i H1 _ _ H2 _ Q k => k H2 (Ex.refl _)) one) H (Ex.refl _) _ fun p H1 hp e1 h1 => q p H1 e1 ?_
  have eq : given (((k : Int) - (r : Int)) + 1 - 1).toNat (fun _ => true) (fun i => V.int (mostA (k : Int) ((1 : Int) + (i : Int)) (r : Int))) = (toldBy k r).map V.int := by
    rw [given_all]
    unfold toldBy
    rw [List.map_map, show (((k : Int) - (r : Int)) + 1 - 1).toNat = k - r by omega]
    apply List.map_congr_left
    intro i _
    show V.int _ = V.int _
    rw [Int.add_comm 1]
  rw [eq] at h1
  have rd := rdl_ints (K := K) (ok := fun a => H a = none) (H := H1) (n := 0) (toldBy k r)
  exact .lst h1 hp rd.1 (by unfold toldBy; rw [List.length_map, List.length_map, List.length_range]; omega) rd.2
def dumEnv (sc : Scope) : Env := { scope := sc, locals := 0, globals := 0, cells := [], qual := "", func := none, code := .none, frame := none, builtins := 0 }
def lcs_told_by_kinds : Scope := relabel (match (defBody s_told_by_kinds).getD 0 (.Pass ⟨0, 0, 0, 0⟩) with
  | .Return (some (.ListComp _ _ sc _)) _ => sc
  | _ => defScope s_told_by_kinds) (dumEnv (defScope s_told_by_kinds))
def spToldK (K : PySem.W.Frag) : Sp := fun vs H Q _ => ∃ m : Nat, vs = [.int (m : Int)] ∧ m ≤ 16 ∧ ∀ p H', Ex H H' → Rd K (fun a => H a = none) H' 3 (.ref p) (list3 (toldK m)) → Q (.ref p) H'
theorem ok_told_by_kinds (T : TA2 K mg) : FnOk P w K mg base CX0 8 T.told_by_kinds.a T.told_by_kinds.fd ["most"] (spToldK K) := by
  refine T.told_by_kinds.F.ok sc_told_by_kinds (fun vs H Q E h => ?_) (fun cdv A outer s H vs Q E hr h => ?_)
  · obtain ⟨m, rfl, _⟩ := h; rfl
  obtain ⟨m, rfl, hm, q⟩ := h
  refine ⟨_, (pss_one (ps_ret (pe_lc (own := [("kinds", 2)]) (g := gName 2) (by rfl) sc_told_by_kinds.nd (pi_range1 rfl T.z_range (pa_cons (pe_op op_add (pv 0) pe_int) pa_nil)) (blkOk_by (own := [("kinds", 2)]) (N := ["most", "rest", "kinds"]) (sc := defScope s_told_by_kinds) (by decide +kernel)) (fun _ _ _ _ _ => (pg_name (i := 2) sc_told_by_kinds.nd rfl (Or.inr rfl))) (fun _ _ _ _ _ => pts_nil) (fun _ _ _ _ _ => (pe_lc (own := [("rest", 1)]) (g := gName 1) (by rfl) sc_told_by_kinds.nd (pi_range1 rfl T.z_range (pa_cons (pv 2) pa_nil)) (blkOk_by (own := [("rest", 1)]) (N := ["most", "rest", "kinds"]) (sc := lcs_told_by_kinds) (by decide +kernel)) (fun _ _ _ _ _ => (pg_name (i := 1) sc_told_by_kinds.nd rfl (Or.inl rfl))) (fun _ _ _ _ _ => pts_nil) (fun _ _ _ _ _ => (pe_call (ok_told_by T) (hr.mono (by decide)) rfl T.told_by.m T.told_by.F.kp T.told_by.b .nil pass0 (pa_cons (pv 2) (pa_cons (pv 1) pa_nil))))))))), ?_⟩
  refine lc_rd (K := K) (σ := [some (.int (m : Int)), none, none]) (vs := [2]) (m := 2) (d := fun k => list2 ((List.range k).map fun r => toldBy k r)) (ea_cons (ev_op (ev_var rfl) ev_c rv_I0) ea_nil) ⟨by omega, by omega⟩ (fun _ => rfl) (fun k H1 e1 hk Q1 q1 => ?_) (fun p H' e r => q p H' e ?_)
  · refine lc_rd (K := K) (σ := [some (.int (m : Int)), none, some (.int (k : Int))]) (vs := [1]) (m := 1) (d := fun r => listI (toldBy k r)) (ea_cons (ev_var rfl) ea_nil) ⟨by omega, by omega⟩ (fun _ => rfl) (fun r H2 e2 hr Q2 q2 => ?_) (fun p H' e r => q1 _ H' e ?_)
    · exact ⟨_, rfl, _, rfl, k, r, rfl, by omega, by omega, fun p H3 e3 r3 => q2 _ H3 e3 r3⟩
    · have e1 : list2 ((List.range k).map fun r => toldBy k r) = .list ((List.range (k : Int).toNat).map fun r => listI (toldBy k r)) := by
        unfold list2
        rw [List.map_map]
        rfl
      rw [e1]
      exact r
  · have e1 : list3 (toldK m) = .list ((List.range ((m : Int) + 1).toNat).map fun k => list2 ((List.range k).map fun r => toldBy k r)) := by
      unfold list3 toldK
      rw [List.map_map, show ((m : Int) + 1).toNat = m + 1 by omega]
      rfl
    rw [e1]
    exact r
/-! ### the least numbers of answers -/
def optV : Option Int → V
  | none => .non
  | some i => .int i
def fstO {α : Type} (p : α → Bool) : Nat → List α → Option Int
  | _, [] => none
  | k, x :: r => if p x then some (k : Int) else fstO p (k + 1) r
theorem fstO_drop {α : Type} {p : α → Bool} {l : List α} {i : Nat} {x : α} (h : l[i]? = some x) (hp : p x = false) : fstO p i (l.drop i) = fstO p (i + 1) (l.drop (i + 1)) := by
  obtain ⟨hi, e⟩ := List.getElem?_eq_some_iff.mp h
  rw [List.drop_eq_getElem_cons hi, e]
  show (if p x then _ else _) = _
  rw [if_neg (by rw [hp]; decide)]
theorem fstO_hit {α : Type} {p : α → Bool} {l : List α} {i : Nat} {x : α} (h : l[i]? = some x) (hp : p x = true) : fstO p i (l.drop i) = some (i : Int) := by
  obtain ⟨hi, e⟩ := List.getElem?_eq_some_iff.mp h
  rw [List.drop_eq_getElem_cons hi, e]
  show (if p x then _ else _) = _
  rw [if_pos hp]
def fewest (n : Int) (l : List Int) : Option Int := fstO (fun v => decide (n ≤ v)) 0 l
def spFewest (K : PySem.W.Frag) : Sp := fun vs H Q _ => ∃ (n : Int) (a : Addr) (l : List Int), vs = [.int n, .ref a] ∧ SqL K H a (l.map V.int) ∧ ∀ H', Ex H H' → Q (optV (fewest n l)) H'
theorem ok_fewest_answers (T : TA2 K mg) : FnOk P w K mg base CX0 1 T.fewest_answers.a T.fewest_answers.fd ["number", "values"] (spFewest K) := by
  refine T.fewest_answers.F.ok sc_fewest_answers (fun vs H Q E h => ?_) (fun cdv A outer s H vs Q E hr h => ?_)
  · obtain ⟨n, a, l, rfl, _⟩ := h; rfl
  obtain ⟨n, a, l, rfl, hl, q⟩ := h
  refine ⟨_, (pss_cons (ps_for PassesOwn.never rfl (pi_enumS (by rfl) T.z_enumerate (pa_cons (pv 1) pa_nil)) (pg_tup (by rfl) (pgs_cons (pg_name (i := 2) sc_fewest_answers.nd rfl (Or.inl rfl)) (pgs_cons (pg_name (i := 3) sc_fewest_answers.nd rfl (Or.inl rfl)) pgs_nil))) (pss_one (ps_if (pt_cmpR op_ge (pv 3) (pv 0) (nomark _)) (pss_one (ps_ret (pv 2))) pss_nil)))
    (pss_one (ps_ret pe_non))), ?_⟩
  refine for_enum (p := 2) (q := 3) (xs := l.map V.int) (fun R r => ⟨_, rfl, r⟩) (.inl hl) (fun i σ H' => Ex H H' ∧ fewest n l = fstO (fun v => decide (n ≤ v)) i (l.drop i) ∧ ∃ x y, σ = [some (.int n), some (.ref a), x, y]) ⟨Ex.refl _, rfl, _, _, rfl⟩ (fun i σ H' _ p => p.1) ?_ ?_
  · rintro i x σ H' t hx ⟨e, hf, x2, y2, rfl⟩ ht
    obtain ⟨z, hz, rfl⟩ := ints_get hx
    refine ⟨_, rfl, _, rfl, _, _, rfl, rfl, _, rfl, ite2 (fun c => ?_) (fun c => ?_)⟩
    · have c' := of_decide_eq_true c
      refine ⟨_, rfl, ?_⟩
      have := q _ (e.trans (Ex.new (o := .tup [.int (i : Int), .int z]) ht))
      rw [hf, fstO_hit hz (decide_eq_true c')] at this
      exact this
    · have c' := of_decide_eq_false (Bool.eq_false_iff.mpr c)
      exact ⟨e.trans (Ex.new ht), hf.trans (fstO_drop hz (decide_eq_false c')), _, _, rfl⟩
  · rintro σ H' ⟨e, hf, x2, y2, rfl⟩
    have := q _ e
    rw [hf, List.length_map, List.drop_length] at this
    exact this
def needF (os : List (Option Int)) (r : Int) : Option Int := fstO (fun o => match o with | some l => decide (l ≤ r) | none => false) 0 os
def spNeed (K : PySem.W.Frag) : Sp := fun vs H Q _ => ∃ (a : Addr) (os : List (Option Int)) (r : Int), vs = [.ref a, .int r] ∧ SqL K H a (os.map optV) ∧ ∀ H', Ex H H' → Q (optV (needF os r)) H'
theorem opts_get {os : List (Option Int)} {i : Nat} {v : V} (h : (os.map optV)[i]? = some v) : ∃ o, os[i]? = some o ∧ v = optV o := by
  rw [List.getElem?_map] at h
  cases e : os[i]? with
  | none => rw [e] at h; cases h
  | some z => rw [e] at h; exact ⟨z, rfl, (Option.some.inj h).symm⟩
theorem ok_need (T : TA2 K mg) : FnOk P w K mg base CX0 1 T.need.a T.need.fd ["further", "rest"] (spNeed K) := by
  refine T.need.F.ok sc_need (fun vs H Q E h => ?_) (fun cdv A outer s H vs Q E hr h => ?_)
  · obtain ⟨a, os, r, rfl, _⟩ := h; rfl
  obtain ⟨a, os, r, rfl, hl, q⟩ := h
  refine ⟨_, (pss_cons (ps_for PassesOwn.never rfl (pi_enumS (by rfl) T.z_enumerate (pa_cons (pv 0) pa_nil)) (pg_tup (by rfl) (pgs_cons (pg_name (i := 2) sc_need.nd rfl (Or.inl rfl)) (pgs_cons (pg_name (i := 3) sc_need.nd rfl (Or.inl rfl)) pgs_nil))) (pss_one (ps_if (PW.pt (pw_and (pt_cmpR op_notN (pv 3) pe_non (nomark _)) (pw_and1 (pt_cmpR op_le (pv 3) (pv 1) (nomark _))))) (pss_one (ps_ret (pv 2))) pss_nil)))
    (pss_one (ps_ret pe_non))), ?_⟩
  refine for_enum (p := 2) (q := 3) (xs := os.map optV) (fun R r => ⟨_, rfl, r⟩) (.inl hl) (fun i σ H' => Ex H H' ∧ needF os r = fstO (fun o => match o with | some l => decide (l ≤ r) | none => false) i (os.drop i) ∧ ∃ x y, σ = [some (.ref a), some (.int r), x, y]) ⟨Ex.refl _, rfl, _, _, rfl⟩ (fun i σ H' _ p => p.1) ?_ ?_
  · rintro i x σ H' t hx ⟨e, hf, x2, y2, rfl⟩ ht
    obtain ⟨o, ho, rfl⟩ := opts_get hx
    cases o with
    | none => exact ⟨_, rfl, rfl, _, rfl, iteF (iteF ⟨e.trans (Ex.new ht), hf.trans (fstO_drop ho rfl), _, _, rfl⟩)⟩
    | some l =>
      refine ⟨_, rfl, rfl, _, rfl, iteT ⟨_, rfl, _, rfl, _, _, rfl, rfl, _, rfl, ite2 (fun c => ?_) (fun c => ?_)⟩⟩
      · have c' := of_decide_eq_true c
        refine ⟨_, rfl, ?_⟩
        have := q _ (e.trans (Ex.new (o := .tup [.int (i : Int), .int l]) ht))
        rw [hf, fstO_hit ho (decide_eq_true c')] at this
        exact this
      · have c' := of_decide_eq_false (Bool.eq_false_iff.mpr c)
        exact ⟨e.trans (Ex.new ht), hf.trans (fstO_drop ho (decide_eq_false c')), _, _, rfl⟩
  · rintro σ H' ⟨e, hf, x2, y2, rfl⟩
    have := q _ e
    rw [hf, List.length_map, List.drop_length] at this
    exact this
def stepL (n len : Int) (acc : Option Int) (t : List Int) (o : Option Int) : Option Int :=
  match fewest n t, o with
  | some a, some b => if a + b < len ∧ (∀ z, acc = some z → a + b < z) then some (a + b) else acc
  | _, _ => acc
def leastF (n len : Int) : Option Int → List (List Int) → List (Option Int) → Option Int
  | acc, t :: ts, o :: os => leastF n len (stepL n len acc t o) ts os
  | acc, _, _ => acc
theorem leastF_drop {n len : Int} {acc : Option Int} {T : List (List Int)} {os : List (Option Int)} {i : Nat} {t : List Int} {o : Option Int} (ht : T[i]? = some t) (ho : os[i]? = some o) :
    leastF n len acc (T.drop i) (os.drop i) = leastF n len (stepL n len acc t o) (T.drop (i + 1)) (os.drop (i + 1)) := by
  obtain ⟨hi, e⟩ := List.getElem?_eq_some_iff.mp ht
  obtain ⟨hj, f⟩ := List.getElem?_eq_some_iff.mp ho
  rw [List.drop_eq_getElem_cons hi, List.drop_eq_getElem_cons hj, e, f]
  rfl
/-- a list of lists of ints -/
theorem rd_list2 {ok : Addr → Prop} {H : Hp} {m : Nat} {x : V} {T : List (List Int)} (h : Rd K ok H m x (list2 T)) : ∃ a vs, x = .ref a ∧ H a = some (.lst vs) ∧ vs.length = T.length ∧ vs.length ≤ 900 ∧ ∀ (i : Nat) (v : V), vs[i]? = some v → ∃ b t, v = .ref b ∧ T[i]? = some t ∧ H b = some (.lst (t.map V.int)) := by
  unfold list2 at h
  cases h with
  | lst h ha hl hz all =>
    rw [List.length_map] at hl
    refine ⟨_, _, rfl, h, hl, hz, fun i v hv => ?_⟩
    have hi := (List.getElem?_eq_some_iff.mp hv).1
    have ht : T[i]? = some (T[i]'(by omega)) := List.getElem?_eq_getElem _
    have r := all i v (listI (T[i]'(by omega))) hv (by rw [List.getElem?_map, ht]; rfl)
    generalize T[i]'(by omega) = t at ht r
    unfold listI at r
    generalize hd : (PyData.list (t.map PyData.int)) = d at r
    cases r with
    | lst h2 ha2 hl2 hz2 all2 =>
      cases hd
      rename_i b xs
      refine ⟨b, t, rfl, ht, ?_⟩
      have : xs = t.map V.int := by
        rw [List.length_map] at hl2
        apply List.ext_getElem?
        intro k
        rw [List.getElem?_map]
        by_cases hk : k < xs.length
        · have h3 : t[k]? = some (t[k]'(by omega)) := List.getElem?_eq_getElem _
          have r2 := all2 k (xs[k]) (.int (t[k]'(by omega))) (List.getElem?_eq_getElem hk) (by rw [List.getElem?_map, h3]; rfl)
          rw [List.getElem?_eq_getElem hk, h3]
          generalize xs[k] = xk at r2
          generalize t[k]'(by omega) = tk at r2
          cases r2
          rfl
        · rw [List.getElem?_eq_none (by omega), List.getElem?_eq_none (by omega)]; rfl
      rw [← this]
      exact h2
    | tup _ _ _ _ _ => cases hd
    | non => cases hd
    | bl _ => cases hd
    | int _ => cases hd
    | str _ _ _ => cases hd
def spLeast (K : PySem.W.Frag) : Sp := fun vs H Q _ => ∃ (n : Int) (x : V) (T : List (List Int)) (m : Nat) (ok : Addr → Prop) (a : Addr) (os : List (Option Int)), vs = [.int n, x, .ref a] ∧ Rd K ok H m x (list2 T) ∧ SqL K H a (os.map optV) ∧ T.length ≤ os.length ∧
  ∀ H', Ex H H' → Q (optV (leastF n (os.length : Int) none T os)) H'
theorem ok_least (T : TA2 K mg) : FnOk P w K mg base CX0 2 T.least.a T.least.fd ["number", "told", "needs"] (spLeast K) := by
  refine T.least.F.ok sc_least (fun vs H Q E h => ?_) (fun cdv A outer s H vs Q E hr h => ?_)
  · obtain ⟨n, x, T, m, ok, a, os, rfl, _⟩ := h; rfl
  obtain ⟨n, x, T2, m, ok, a, os, rfl, hx, ha, hl, q⟩ := h
  refine ⟨_, (pss_cons (ps_set (i := 3) sc_least.nd rfl (Or.inl rfl) pe_non)
    (pss_cons (ps_for PassesOwn.never rfl (pi_enumS (by rfl) T.z_enumerate (pa_cons (pv 1) pa_nil)) (pg_tup (by rfl) (pgs_cons (pg_name (i := 4) sc_least.nd rfl (Or.inl rfl)) (pgs_cons (pg_name (i := 5) sc_least.nd rfl (Or.inl rfl)) pgs_nil))) (pss_cons (ps_set (i := 6) sc_least.nd rfl (Or.inl rfl) (pe_call (ok_fewest_answers T) (hr.mono (by decide)) rfl T.fewest_answers.m T.fewest_answers.F.kp T.fewest_answers.b .nil pass0 (pa_cons (pv 0) (pa_cons (pv 5) pa_nil))))
    (pss_cons (ps_if (PW.pt (pw_or (pt_cmpR op_isN (pv 6) pe_non (nomark _)) (pw_or1 (pt_cmpR op_isN (pe_ix (kixl K) (pv 2) (pv 4) (fun _ _ => rfl)) pe_non (nomark _))))) (pss_one (ps_continue)) pss_nil)
    (pss_cons (ps_set (i := 7) sc_least.nd rfl (Or.inl rfl) (pe_op op_add (pv 6) (pe_ix (kixl K) (pv 2) (pv 4) (fun _ _ => rfl))))
    (pss_one (ps_if (PW.pt (pw_and (pt_cmpR op_lt (pv 7) (pe_callB (klen K) (by rfl) T.z_len (by decide +kernel) (pa_cons (pv 2) pa_nil)) (nomark _)) (pw_and1 (PW.pt (pw_or (pt_cmpR op_isN (pv 3) pe_non (nomark _)) (pw_or1 (pt_cmpR op_lt (pv 7) (pv 3) (nomark _)))))))) (pss_one (ps_set (i := 3) sc_least.nd rfl (Or.inl rfl) (pv 7))) pss_nil))))))
    (pss_one (ps_ret (pv 3))))), ?_⟩
  obtain ⟨b, vs, rfl, hb, hlen, hz, all⟩ := rd_list2 hx
  have hal : ∀ H', Ex H H' → SqL K H' a (os.map optV) := fun H' e => ex_l e ha
  refine for_enum (p := 4) (q := 5) (xs := vs) (fun R r => ⟨_, rfl, r⟩) (.inl (SqL.of hb)) (fun i σ H' => Ex H H' ∧ ∃ acc x4 x5 x6 x7, leastF n (os.length : Int) none T2 os = leastF n (os.length : Int) acc (T2.drop i) (os.drop i) ∧ σ = [some (.int n), some (.ref b), some (.ref a), some (optV acc), x4, x5, x6, x7])
    ⟨Ex.refl _, none, _, _, _, _, rfl, rfl⟩ (fun i σ H' _ p => p.1) ?_ ?_
  · rintro i x σ H' tt hv ⟨e, acc, x4, x5, x6, x7, hf, rfl⟩ htt
    obtain ⟨c, t, rfl, ht, hc⟩ := all i x hv
    have hi := (List.getElem?_eq_some_iff.mp ht).1
    obtain ⟨o, ho⟩ : ∃ o, os[i]? = some o := ⟨_, List.getElem?_eq_getElem (by omega)⟩
    have e1 := e.trans (Ex.new (o := .tup [.int (i : Int), .ref c]) htt)
    rw [leastF_drop ht ho] at hf
    refine ⟨_, rfl, _, rfl, n, c, t, rfl, SqL.of (e1 _ _ hc), fun H3 e3 => ?_⟩
    have e2 := e1.trans e3
    have hat : atI (os.map optV) (i : Int) = some (optV o) := atI_nat (by rw [List.getElem?_map, ho]; rfl)
    cases hfw : fewest n t with
    | none =>
      refine ⟨_, rfl, rfl, _, rfl, iteT (iteT ⟨e2, acc, _, _, _, _, ?_, rfl⟩)⟩
      rw [hf]
      unfold stepL
      rw [hfw]
    | some av =>
      refine ⟨_, rfl, rfl, _, rfl, iteF ⟨_, rfl, _, rfl, a, _, _, _, rfl, rfl, hal _ e2, hat, rfl, ?_⟩⟩
      cases o with
      | none =>
        refine ⟨_, rfl, iteT ⟨e2, acc, _, _, _, _, ?_, rfl⟩⟩
        rw [hf]
        unfold stepL
        rw [hfw]
      | some bv =>
        refine ⟨_, rfl, iteF ?_⟩
        refine ⟨_, rfl, _, rfl, _, rfl, a, _, _, _, rfl, rfl, hal _ e2, hat, _, _, rfl, rfl, ?_⟩
        refine ⟨_, rfl, _, rfl, _, _, rfl, .inl ⟨_, hal _ e2, rfl⟩, _, _, rfl, rfl, _, rfl, ite2 (fun c => ?_) (fun c => ?_)⟩
        · have c' := of_decide_eq_true c
          rw [List.length_map] at c'
          cases acc with
          | none =>
            refine ⟨_, rfl, rfl, _, rfl, iteT (iteT ⟨_, rfl, e2, some (av + bv), _, _, _, _, ?_, rfl⟩)⟩
            rw [hf]
            unfold stepL
            rw [hfw]
            simp [c']
          | some z =>
            refine ⟨_, rfl, rfl, _, rfl, iteF ⟨_, rfl, _, rfl, _, _, rfl, rfl, _, rfl, ite2 (fun d => ?_) (fun d => ?_)⟩⟩
            · have d' := of_decide_eq_true d
              refine ⟨_, rfl, e2, some (av + bv), _, _, _, _, ?_, rfl⟩
              rw [hf]
              unfold stepL
              rw [hfw]
              simp [c', d']
            · have d' := of_decide_eq_false (Bool.eq_false_iff.mpr d)
              refine ⟨e2, some z, _, _, _, _, ?_, rfl⟩
              rw [hf]
              unfold stepL
              rw [hfw]
              simp [d']
        · have c' := of_decide_eq_false (Bool.eq_false_iff.mpr c)
          rw [List.length_map] at c'
          refine iteF ⟨e2, acc, _, _, _, _, ?_, rfl⟩
          rw [hf]
          unfold stepL
          rw [hfw]
          simp [c']
  · rintro σ H' ⟨e, acc, x4, x5, x6, x7, hf, rfl⟩
    refine ⟨_, rfl, ?_⟩
    have := q _ e
    rw [hf, hlen, List.drop_length] at this
    exact this
end
end L2.U


set_option Elab.async false
set_option linter.all false
set_option maxRecDepth 100000
set_option maxHeartbeats 4000000
namespace L2.U
open PySem PySem.Spec PyProof.Rows Evl

section
variable {P : Program} {w : World} {K : PySem.W.Frag} {mg : Str → Option Value} {base : Heap}
theorem rd_list3 {ok : Addr → Prop} {H : Hp} {m : Nat} {x : V} {T : List (List (List Int))} (h : Rd K ok H m x (list3 T)) : ∃ a vs, x = .ref a ∧ H a = some (.lst vs) ∧ vs.length = T.length ∧ vs.length ≤ 900 ∧ ∀ (i : Nat) (v : V), vs[i]? = some v → ∃ t, T[i]? = some t ∧ Rd K ok H (m - 1) v (list2 t) := by
  unfold list3 at h
  cases h with
  | lst h ha hl hz all =>
    rw [List.length_map] at hl
    refine ⟨_, _, rfl, h, hl, hz, fun i v hv => ?_⟩
    have hi := (List.getElem?_eq_some_iff.mp hv).1
    have ht : T[i]? = some (T[i]'(by omega)) := List.getElem?_eq_getElem _
    exact ⟨_, ht, all i v _ hv (by rw [List.getElem?_map, ht]; rfl)⟩
def stairF (n : Int) (T : List (List (List Int))) (os : List (Option Int)) : List (Option Int) :=
  let needs := (List.range os.length).map fun r : Nat => needF os (r : Int)
  (List.range os.length).map fun k => leastF n (needs.length : Int) none (T.getD k []) needs
def spStair (K : PySem.W.Frag) : Sp := fun vs H Q _ => ∃ (n : Int) (x : V) (T : List (List (List Int))) (m : Nat) (ok : Addr → Prop) (a : Addr) (os : List (Option Int)), vs = [.int n, x, .ref a] ∧ Rd K ok H m x (list3 T) ∧ SqL K H a (os.map optV) ∧ T.length = os.length ∧ os.length ≤ 64 ∧ (∀ t ∈ T, t.length ≤ os.length) ∧
  ∀ p H', H p = none → Ex H H' → H' p = some (.lst ((stairF n T os).map optV)) → Q (.ref p) H'
theorem ok_stair (T : TA2 K mg) : FnOk P w K mg base CX0 3 T.stair.a T.stair.fd ["number", "told", "further"] (spStair K) := by
  refine T.stair.F.ok sc_stair (fun vs H Q E h => ?_) (fun cdv A outer s H vs Q E hr h => ?_)
  · obtain ⟨n, x, T, m, ok, a, os, rfl, _⟩ := h; rfl
  obtain ⟨n, x, T2, m, ok, a, os, rfl, hx, ha, hl, h64, hT, q⟩ := h
  refine ⟨_, (pss_cons (ps_set (i := 3) sc_stair.nd rfl (Or.inr rfl) (pe_lc (own := [("rest", 4)]) (g := gName 4) (by rfl) sc_stair.nd (pi_range1 rfl T.z_range (pa_cons (pe_callB (klen K) (by rfl) T.z_len (by decide +kernel) (pa_cons (pv 2) pa_nil)) pa_nil)) (blkOk_by (own := [("rest", 4)]) (N := ["number", "told", "further", "needs", "rest", "kinds"]) (sc := defScope s_stair) (by decide +kernel)) (fun _ _ _ _ _ => (pg_name (i := 4) sc_stair.nd rfl (Or.inl rfl))) (fun _ _ _ _ _ => pts_nil) (fun _ _ _ _ _ => (pe_call (ok_need T) (hr.mono (by decide)) rfl T.need.m T.need.F.kp T.need.b .nil pass0 (pa_cons (pv 2) (pa_cons (pv 4) pa_nil))))))
    (pss_one (ps_ret (pe_lc (own := [("kinds", 5)]) (g := gName 5) (by rfl) sc_stair.nd (pi_range1 rfl T.z_range (pa_cons (pe_callB (klen K) (by rfl) T.z_len (by decide +kernel) (pa_cons (pv 2) pa_nil)) pa_nil)) (blkOk_by (own := [("kinds", 5)]) (N := ["number", "told", "further", "needs", "rest", "kinds"]) (sc := defScope s_stair) (by decide +kernel)) (fun _ _ _ _ _ => (pg_name (i := 5) sc_stair.nd rfl (Or.inl rfl))) (fun _ _ _ _ _ => pts_nil) (fun _ _ _ _ _ => (pe_call (ok_least T) (hr.mono (by decide)) rfl T.least.m T.least.F.kp T.least.b .nil pass0 (pa_cons (pv 0) (pa_cons (pe_ix (kixl K) (pv 1) (pv 5) (fun _ _ => rfl)) (pa_cons (pv 3) pa_nil))))))))), ?_⟩
  obtain ⟨b, vs, rfl, hb, hlen, hz, all⟩ := rd_list3 hx
  have ln : ∀ {σ : L2.St} {H1 : Hp}, σ[2]? = some (some (.ref a)) → Ex H H1 → Ev (tCB (rLen K) (tCons (tVar 2) tNil)) σ H1 (.int (os.length : Int)) := fun hσ e H2 e2 Q k => ⟨_, hσ, _, os.length, rfl, .inl ⟨_, ex_l (e.trans e2) ha, by rw [List.length_map]⟩, k H2 (Ex.refl _)⟩
  have needs : EvL (tLc (iRng1 (tCons (tCB (rLen K) (tCons (tVar 2) tNil)) tNil)) (gName 4) tYes (tCall (spNeed K) [] E0 (tCons (tVar 2) (tCons (tVar 4) tNil))) [4]) [some (.int n), some (.ref b), some (.ref a), none, none, none] H (given (os.length : Int).toNat (fun _ => true) (fun r => optV (needF os (r : Int)))) :=
    el_lcR1 (fun _ => true) (fun r => optV (needF os (r : Int))) (ea_cons (ln rfl (Ex.refl _)) ea_nil) ⟨by omega, by omega⟩ (fun _ => rfl) (fun i H1 _ _ H2 _ Q k => k H2 (Ex.refl _)) (fun r H1 e1 hr _ H2 e2 Q2 k2 => ⟨_, rfl, _, rfl, a, os, (r : Int), rfl, ex_l (e1.trans e2) ha, fun H3 e3 => k2 H3 e3⟩)
  refine q_asgL needs fun p H1 hp e1 h1 => ?_
  have en : given (os.length : Int).toNat (fun _ => true) (fun r => optV (needF os (r : Int))) = ((List.range os.length).map fun r : Nat => needF os (r : Int)).map optV := by
    rw [given_all, List.map_map]
    rfl
  rw [en] at h1
  obtain ⟨nd, hnd⟩ : ∃ nd, nd = (List.range os.length).map fun r : Nat => needF os (r : Int) := ⟨_, rfl⟩
  have ndl : nd.length = os.length := by rw [hnd, List.length_map, List.length_range]
  rw [← hnd] at h1
  have out : EvL (tLc (iRng1 (tCons (tCB (rLen K) (tCons (tVar 2) tNil)) tNil)) (gName 5) tYes (tCall (spLeast K) [] E0 (tCons (tVar 0) (tCons (tOp (rIxL K) (tVar 1) (tVar 5)) (tCons (tVar 3) tNil)))) [5]) [some (.int n), some (.ref b), some (.ref a), some (.ref p), none, none] H1 (given (os.length : Int).toNat (fun _ => true) (fun k => optV (leastF n (nd.length : Int) none (T2.getD k []) nd))) := by
    refine el_lcR1 (fun _ => true) (fun k => optV (leastF n (nd.length : Int) none (T2.getD k []) nd)) (ea_cons (ln rfl e1) ea_nil) ⟨by omega, by omega⟩ (fun _ => rfl) (fun i H1 _ _ H2 _ Q k => k H2 (Ex.refl _)) (fun k H2 e2 hk _ H3 e3 Q2 k2 => ?_)
    have hv : vs[k]? = some (vs[k]'(by omega)) := List.getElem?_eq_getElem _
    obtain ⟨t, ht, rt⟩ := all k _ hv
    have g : T2.getD k [] = t := by rw [List.getD_eq_getElem?_getD, ht]; rfl
    have e13 := (e1.trans e2).trans e3
    rw [g] at k2
    exact ⟨_, rfl, _, rfl, _, rfl, b, _, _, _, rfl, rfl, SqL.of (e13 _ _ hb), atI_nat hv, _, rfl, n, _, t, m - 1, ok, p, nd, rfl, rt.ex e13, SqL.of ((e2.trans e3) _ _ h1), by rw [ndl]; exact hT t (List.mem_of_getElem? ht), fun H4 e4 => k2 H4 e4⟩
  refine s_retL out fun p2 H2 hp2 e2 h2 => q p2 H2 (fresh_back e1 hp2) (e1.trans e2) ?_
  rw [h2]
  congr 2
  rw [given_all]
  unfold stairF
  rw [List.map_map]
  rw [← hnd]
  rfl
def zerosO (n : Nat) : List (Option Int) := List.replicate n (some 0)
end
end L2.U


set_option Elab.async false
set_option linter.all false
set_option maxRecDepth 100000
set_option maxHeartbeats 4000000
namespace L2.U
open PySem PySem.Spec PyProof.Rows Evl


section
variable {P : Program} {w : World} {K : PySem.W.Frag} {mg : Str → Option Value} {base : Heap}
def rowD (d : PyData) : Bool := isSeq d && decide ((itemsD d).length ≤ 16) && (itemsD d).all (betwD 1 100000000000000000000000000000000000000000000000000)
def spIsRowD (K : PySem.W.Frag) : Sp := fun vs H Q _ => ∃ x d n ok, vs = [x] ∧ Rd K ok H n x d ∧ ∀ H', Ex H H' → Q (.bl (rowD d)) H'
theorem ok_is_row (T : TA2 K mg) : FnOk P w K mg base CX0 4 T.is_row.a T.is_row.fd ["value"] (spIsRowD K) := by
  refine T.is_row.F.ok sc_is_row (fun vs H Q E h => ?_) (fun cdv A outer s H vs Q E hr h => ?_)
  · obtain ⟨x, d, n, ok, rfl, _⟩ := h; rfl
  obtain ⟨x, d, n, ok, rfl, h, q⟩ := h
  refine ⟨_, (pss_cons (ps_if (PW.pt (pw_or (pt_not (pt_val (pe_call (ok_is_list T.toTA1) (hr.mono (by decide)) rfl T.is_list.m T.is_list.F.kp T.is_list.b .nil pass0 (pa_cons (pv 0) pa_nil)))) (pw_or1 (pt_cmpR op_gt (pe_callB (klen K) (by rfl) T.z_len (by decide +kernel) (pa_cons (pv 0) pa_nil)) (pe_glob (v := .int 16) rfl T.c_MOST_NUMBERS ⟨_, rfl⟩) (nomark _))))) (pss_one (ps_ret pe_bl)) pss_nil)
    (pss_one (ps_ret (pe_call (ok_are_between T) (hr.mono (by decide)) rfl T.are_between.m T.are_between.F.kp T.are_between.b .nil pass0 (pa_cons (pv 0) (pa_cons pe_int (pa_cons (pe_glob (v := .int 100000000000000000000000000000000000000000000000000) rfl T.c_GREATEST ⟨_, rfl⟩) pa_nil))))))), ?_⟩
  refine ⟨_, rfl, x, d, n, ok, rfl, .inl h, fun H1 e1 => ⟨isSeq d, rfl, ?_⟩⟩
  cases sq : isSeq d with
  | false => exact iteT (iteT (by have := q _ e1; unfold rowD at this; rw [sq] at this; exact this))
  | true =>
  have h1 := h.ex e1
  obtain ⟨a, xs, rfl, hs, hl, hz, all⟩ := rd_seq h1 sq
  refine iteF ⟨_, rfl, _, _, rfl, (hs.imp (fun z => ⟨_, z.1, rfl⟩) (fun z => ⟨_, z.1, rfl⟩)), _, _, rfl, rfl, _, rfl, ite2 (fun c => ?_) (fun c => ?_)⟩
  · have c' := of_decide_eq_true c
    have := q _ e1
    unfold rowD at this
    rw [sq, decide_eq_false (show ¬ (itemsD d).length ≤ 16 by omega)] at this
    exact this
  · have c' := of_decide_eq_false (Bool.eq_false_iff.mpr c)
    refine ⟨_, rfl, .ref a, d, n, ok, 1, 100000000000000000000000000000000000000000000000000, rfl, h1, sq, fun H2 e2 => ?_⟩
    have := q _ (e1.trans e2)
    unfold rowD at this
    rw [sq, decide_eq_true (show (itemsD d).length ≤ 16 by omega)] at this
    exact this
theorem ok_check_row (T : TA2 K mg) : FnOk P w K mg base (L2.CX P w) 5 T.check_row.a T.check_row.fd ["row"] (spChkD K T.InvalidRow.C rowD) := by
  refine T.check_row.F.okX sc_check_row (fun vs H Q E h => ?_) (fun cdv A outer s H vs Q E hr h => ?_)
  · obtain ⟨x, d, n, ok, rfl, _⟩ := h; rfl
  obtain ⟨x, d, n, ok, rfl, h, q1, q2⟩ := h
  refine ⟨_, (pss_one (ps_if (pt_not (pt_val (pe_call (ok_is_row T) (hr.mono (by decide)) rfl T.is_row.m T.is_row.F.kp T.is_row.b .nil pass0 (pa_cons (pv 0) pa_nil)))) (pss_one (ps_raise rfl (takes_of rfl rfl rfl rfl) (pmk_oex T.InvalidRow.T T.InvalidRow.iC T.InvalidRow.tI (ok_init_InvalidRow T.InvalidRow) (hr.mono (by decide)) T.InvalidRow.b .nil pass0 rfl T.InvalidRow.gC (by exact (pa_cons (pv 0) pa_nil))))) pss_nil)), ?_⟩
  refine ⟨_, rfl, x, d, n, ok, rfl, h, fun H1 e1 => ⟨_, rfl, ?_⟩⟩
  cases c : rowD d with
  | true => exact iteF (q1 c _ e1)
  | false => exact iteT ⟨_, rfl, (by show 1 ≤ 1000; decide), fun a ha => raised ha fun e H' ex he => q2 c e H' (e1.trans ex) he⟩
def spCheckStairs (K : PySem.W.Frag) (CR CM : Addr) : Sp := fun vs H Q E => ∃ (x y : V) (dx dy : PyData) (n : Nat) (ok : Addr → Prop), vs = [x, y] ∧ Rd K ok H n x dx ∧ Rd K ok H n y dy ∧
  (rowD dx = true → betwD 0 16 dy = true → ∀ H', Ex H H' → Q .non H') ∧
  (rowD dx = false → ∀ e H', Ex H H' → H' e = some (.xd [("given", x)]) → E (.ref CR) (some e) H') ∧
  (rowD dx = true → betwD 0 16 dy = false → ∀ e H', Ex H H' → H' e = some (.xd [("given", y)]) → E (.ref CM) (some e) H')
theorem ok_check_stairs (T : TA2 K mg) : FnOk P w K mg base (L2.CX P w) 6 T.check_stairs.a T.check_stairs.fd ["row", "most"] (spCheckStairs K T.InvalidRow.C T.InvalidMost.C) := by
  refine T.check_stairs.F.okX sc_check_stairs (fun vs H Q E h => ?_) (fun cdv A outer s H vs Q E hr h => ?_)
  · obtain ⟨x, y, dx, dy, n, ok, rfl, _⟩ := h; rfl
  obtain ⟨x, y, dx, dy, n, ok, rfl, hx, hy, q, qr, qm⟩ := h
  refine ⟨_, (pss_cons (ps_expr (by exact (pe_callS (ok_check_row T) (hr.mono (by decide)) rfl T.check_row.m T.check_row.F.kp T.check_row.b (fun σ => passAt (takes_of rfl rfl rfl rfl) σ) (pa_cons (pv 0) pa_nil))))
    (pss_one (ps_if (pt_not (pt_val (pe_call (ok_is_between T.toTA1) (hr.mono (by decide)) rfl T.is_between.m T.is_between.F.kp T.is_between.b .nil pass0 (pa_cons (pv 1) (pa_cons pe_int (pa_cons (pe_glob (v := .int 16) rfl T.c_MOST_KINDS ⟨_, rfl⟩) pa_nil)))))) (pss_one (ps_raise rfl (takes_of rfl rfl rfl rfl) (pmk_oex T.InvalidMost.T T.InvalidMost.iC T.InvalidMost.tI (ok_init_InvalidMost T.InvalidMost) (hr.mono (by decide)) T.InvalidMost.b .nil pass0 rfl T.InvalidMost.gC (by exact (pa_cons (pv 1) pa_nil))))) pss_nil))), ?_⟩
  refine ⟨_, rfl, x, dx, n, ok, rfl, hx, fun c H1 e1 => ?_, qr⟩
  have ry := hy.ex e1
  refine ⟨_, rfl, _, _, _, rfl, ry.dat, fun bb h1 h2 => ⟨bb, rfl, ?_⟩⟩
  rw [rd_betw ry h1 h2]
  cases c2 : betwD 0 16 dy with
  | true => exact iteF (q c c2 _ e1)
  | false => exact iteT ⟨_, rfl, (by show 1 ≤ 1000; decide), fun a ha => raised ha fun e H' ex he => qm c c2 e H' (e1.trans ex) he⟩
/-! ### stairs of any row -/
def stairsF (T : List (List (List Int))) (zs : List (Option Int)) : List Int → List (List (Option Int))
  | [] => [zs]
  | x :: row => stairF x T ((stairsF T zs row).headD []) :: stairsF T zs row
def headS (T : List (List (List Int))) (zs : List (Option Int)) (row : List Int) : List (Option Int) := (stairsF T zs row).headD []
theorem headS_nil {T : List (List (List Int))} {zs : List (Option Int)} : headS T zs [] = zs := rfl
theorem headS_cons {T : List (List (List Int))} {zs : List (Option Int)} {x : Int} {row : List Int} : headS T zs (x :: row) = stairF x T (headS T zs row) := rfl
theorem stairF_len {n : Int} {T : List (List (List Int))} {os : List (Option Int)} : (stairF n T os).length = os.length := by unfold stairF; rw [List.length_map, List.length_range]
theorem headS_len {T : List (List (List Int))} {zs : List (Option Int)} : ∀ row : List Int, (headS T zs row).length = zs.length
  | [] => rfl
  | x :: row => by rw [headS_cons, stairF_len, headS_len row]
theorem at_neg1 {us : List V} {v : V} : atI (us ++ [v]) (-1) = some v := by
  have e : ixN (us ++ [v]).length (-1) = some us.length := by
    unfold ixN
    rw [if_neg (by decide), if_pos (by rw [List.length_append, List.length_singleton]; omega), List.length_append, List.length_singleton]
    congr 1
    omega
  unfold atI
  rw [e]
  simp
/-- lists of options, one at each address -/
def StrAt (H : Hp) (ts : List Addr) (ss : List (List (Option Int))) : Prop := ts.length = ss.length ∧ ∀ (i : Nat) (t : Addr) (s : List (Option Int)), ts[i]? = some t → ss[i]? = some s → H t = some (.lst (s.map optV))
theorem StrAt.ex {H H' : Hp} {ts : List Addr} {ss : List (List (Option Int))} (h : StrAt H ts ss) (e : Ex H H') : StrAt H' ts ss := ⟨h.1, fun i t s h1 h2 => e _ _ (h.2 i t s h1 h2)⟩
theorem StrAt.but {F : Addr} {H H' : Hp} {ts : List Addr} {ss : List (List (Option Int))} (h : StrAt H ts ss) (k : But F H H') (n : ∀ t ∈ ts, t ≠ F) : StrAt H' ts ss := ⟨h.1, fun i t s h1 h2 => k _ _ (n t (List.mem_of_getElem? h1)) (h.2 i t s h1 h2)⟩
theorem StrAt.snoc {H : Hp} {ts : List Addr} {ss : List (List (Option Int))} {p : Addr} {s : List (Option Int)} (h : StrAt H ts ss) (hp : H p = some (.lst (s.map optV))) : StrAt H (ts ++ [p]) (ss ++ [s]) := by
  refine ⟨by rw [List.length_append, List.length_append, h.1]; rfl, fun i t s' h1 h2 => ?_⟩
  by_cases c : i < ts.length
  · rw [List.getElem?_append_left c] at h1
    rw [List.getElem?_append_left (by rw [← h.1]; exact c)] at h2
    exact h.2 i t s' h1 h2
  · have hi := (List.getElem?_eq_some_iff.mp h1).1
    rw [List.length_append, List.length_singleton] at hi
    have e : i = ts.length := by omega
    subst e
    rw [List.getElem?_append_right (Nat.le_refl _), Nat.sub_self] at h1
    rw [h.1, List.getElem?_append_right (Nat.le_refl _), Nat.sub_self] at h2
    cases Option.some.inj h1
    cases Option.some.inj h2
    exact hp
theorem StrAt.rev {H : Hp} {ts : List Addr} {ss : List (List (Option Int))} (h : StrAt H ts ss) : StrAt H ts.reverse ss.reverse := by
  refine ⟨by rw [List.length_reverse, List.length_reverse, h.1], fun i t s h1 h2 => ?_⟩
  have hi := (List.getElem?_eq_some_iff.mp h1).1
  rw [List.length_reverse] at hi
  rw [List.getElem?_reverse hi] at h1
  rw [List.getElem?_reverse (by rw [← h.1]; exact hi), ← h.1] at h2
  exact h.2 _ t s h1 h2
theorem stairsF_cons {T : List (List (List Int))} {zs : List (Option Int)} {x : Int} {row : List Int} : stairsF T zs (x :: row) = stairF x T (headS T zs row) :: stairsF T zs row := rfl
theorem stairsF_len {T : List (List (List Int))} {zs : List (Option Int)} : ∀ row : List Int, (stairsF T zs row).length = row.length + 1
  | [] => rfl
  | x :: row => by rw [stairsF_cons, List.length_cons, stairsF_len row]; rfl
def spStairsBy (K : PySem.W.Frag) : Sp := fun vs H Q _ => ∃ (ns : List Int) (x : V) (T : List (List (List Int))) (m : Nat) (ok : Addr → Prop) (a : Addr), vs = [.ref a, x] ∧ (SqL K H a (ns.map V.int) ∨ SqT K H a (ns.map V.int)) ∧ ns.length ≤ 16 ∧ Rd K ok H m x (list3 T) ∧ T.length ≤ 64 ∧ (∀ t ∈ T, t.length ≤ T.length) ∧
  ∀ p (ts : List Addr) H', Ex H H' → H p = none → H' p = some (.lst (ts.map V.ref)) → StrAt H' ts (stairsF T (zerosO T.length) ns) → ts.Nodup → (∀ t ∈ ts, H t = none ∧ t ≠ p) → Q (.ref p) H'
theorem ok_stairs_by (T : TA2 K mg) : FnOk P w K mg base CX0 4 T.stairs_by.a T.stairs_by.fd ["row", "told"] (spStairsBy K) := by
  refine T.stairs_by.F.ok sc_stairs_by (fun vs H Q E h => ?_) (fun cdv A outer s H vs Q E hr h => ?_)
  · obtain ⟨n, x, T, m, ok, a, rfl, _⟩ := h; rfl
  obtain ⟨ns, x, T2, m, ok, a, rfl, ha, n16, hx, h64, hT, q⟩ := h
  refine ⟨_, (pss_cons (ps_set (i := 2) sc_stairs_by.nd rfl (Or.inl rfl) (pe_lst (pa_cons (pe_op op_rep (pe_lst (pa_cons pe_int pa_nil)) (pe_callB (klen K) (by rfl) T.z_len (by decide +kernel) (pa_cons (pv 1) pa_nil))) pa_nil)))
    (pss_cons (ps_for PassesOwn.never rfl (kpis K (pe_revS (pv 0))) (pg_name (i := 3) sc_stairs_by.nd rfl (Or.inl rfl)) (pss_one (ps_expr (pe_bm PySem.F.plainAttrs_list PySem.F.slot_list_append PySem.F.type_list_append mt_append (pv 2) (pa_cons (pe_call (ok_stair T) (hr.mono (by decide)) rfl T.stair.m T.stair.F.kp T.stair.b .nil pass0 (pa_cons (pv 3) (pa_cons (pv 1) (pa_cons (pe_ix (kixl K) (pv 2) (pe_un un_neg pe_int) (fun _ _ => rfl)) pa_nil)))) pa_nil)))))
    (pss_one (ps_ret (pe_revL (pv 2)))))), ?_⟩
  obtain ⟨b, vs, rfl, hb, hlen, hz, all⟩ := rd_list3 hx
  have sz : ∀ m : Nat, m ≤ 1000 → m ≤ sizeLine := fun m h => Nat.le_of_lt (small1000 h)
  refine ⟨(by show 1 ≤ sizeLine; decide), fun p0 hp0 => ?_⟩
  have e0 := Ex.new (o := .lst [.int 0]) hp0
  refine ⟨_, rfl, _, vs.length, rfl, .inl ⟨vs, SqL.of (e0 _ _ hb), rfl⟩, p0, (vs.length : Int), [.int 0], rfl, rfl, upd_same, by omega, by omega, sz _ (by rw [List.length_singleton]; omega), fun z hz0 => ⟨(by show 1 ≤ sizeLine; decide), fun F hF => ?_⟩⟩
  have ez : (List.replicate (vs.length : Int).toNat [V.int 0]).flatten = (zerosO T2.length).map optV := by
    rw [rep_one, Int.toNat_natCast, hlen]
    unfold zerosO
    rw [List.map_replicate]
    rfl
  have e1 := e0.trans (Ex.new (o := .lst (List.replicate (vs.length : Int).toNat [V.int 0]).flatten) hz0)
  have e2 := e1.trans (Ex.new (o := .lst [.ref z]) hF)
  have hzz : upd (upd (upd H p0 (.lst [.int 0])) z (.lst (List.replicate (vs.length : Int).toNat [V.int 0]).flatten)) F (.lst [.ref z]) z = some (.lst ((zerosO T2.length).map optV)) := by
    rw [← ez]
    exact (Ex.new hF) _ _ upd_same
  have hFF : upd (upd (upd H p0 (.lst [.int 0])) z (.lst (List.replicate (vs.length : Int).toNat [V.int 0]).flatten)) F (.lst [.ref z]) F = some (.lst [.ref z]) := upd_same
  have hF1 : H F = none := fresh_back e1 hF
  generalize upd (upd (upd H p0 (.lst [.int 0])) z (.lst (List.replicate (vs.length : Int).toNat [V.int 0]).flatten)) F (.lst [.ref z]) = H1 at e2 hzz hFF ⊢
  have zl : (zerosO T2.length).length = T2.length := List.length_replicate ..
  have turn : ∀ (Pr : Hp → Prop) (cl : ∀ G G', But F G G' → Pr G → Pr G') (i : Nat) (x : V) (σ : L2.St) (H' : Hp), (ns.reverse.map V.int)[i]? = some x → (Ex H H' ∧ Pr H' ∧ ∃ (s : Addr) (us : List Addr) (v : Option V), H' F = some (.lst ((us ++ [s]).map V.ref)) ∧ us.length = i ∧ s ≠ F ∧ H' s = some (.lst ((headS T2 (zerosO T2.length) (ns.reverse.take i).reverse).map optV)) ∧ StrAt H' (us ++ [s]) (stairsF T2 (zerosO T2.length) (ns.reverse.take i).reverse).reverse ∧ (us ++ [s]).Nodup ∧ (∀ t ∈ us ++ [s], H t = none ∧ t ≠ F) ∧ σ = [some (.ref a), some (.ref b), some (.ref F), v]) →
      gName 3 x σ H' fun σ2 H2 => tDrop (tBM K "list" rAppend (tVar 2) (tCons (tCall (spStair K) [] E0 (tCons (tVar 3) (tCons (tVar 1) (tCons (tOp (rIxL K) (tVar 2) (tUn (rU fun i => V.int (-i)) (tC (V.int 1)))) tNil)))) tNil))
        { nx := fun σ H' => Ex H H' ∧ Pr H' ∧ ∃ (s : Addr) (us : List Addr) (v : Option V), H' F = some (.lst ((us ++ [s]).map V.ref)) ∧ us.length = (i + 1) ∧ s ≠ F ∧ H' s = some (.lst ((headS T2 (zerosO T2.length) (ns.reverse.take (i + 1)).reverse).map optV)) ∧ StrAt H' (us ++ [s]) (stairsF T2 (zerosO T2.length) (ns.reverse.take (i + 1)).reverse).reverse ∧ (us ++ [s]).Nodup ∧ (∀ t ∈ us ++ [s], H t = none ∧ t ≠ F) ∧ σ = [some (.ref a), some (.ref b), some (.ref F), v], rt := Q } σ2 H2 := by
    rintro Pr cl i x σ H' hxi ⟨e, hr, s, us, v, hF', hl, sF, hs, sa, nd, fr, rfl⟩
    obtain ⟨z1, hz1, rfl⟩ := ints_get hxi
    have hi := (List.getElem?_eq_some_iff.mp hz1).1
    rw [List.length_reverse] at hi
    have hlS := headS_len (T := T2) (zs := zerosO T2.length) (ns.reverse.take i).reverse
    have hF2 : H' F = some (.lst (us.map V.ref ++ [.ref s])) := by rw [hF', List.map_append]; rfl
    refine ⟨_, rfl, .inl ⟨rfl, _, SqL.of hF'⟩, _, rfl, _, rfl, _, rfl, 1, rfl, F, _, _, _, rfl, rfl, SqL.of hF2, at_neg1, z1, .ref b, T2, m, ok, s, headS T2 (zerosO T2.length) (ns.reverse.take i).reverse, rfl, hx.ex e, SqL.of hs, by rw [hlS, zl], by rw [hlS, zl]; exact h64, by rw [hlS, zl]; exact hT, fun p H2 hp e4 h4 => ?_⟩
    have pF : p ≠ F := by rintro rfl; rw [hF'] at hp; cases hp
    have kF : But F H2 (upd H2 F (.lst ((us ++ [s]).map V.ref ++ [.ref p]))) := But.upd
    have hs2 := e4 _ _ hs
    have hsp : (upd H2 F (.lst ((us ++ [s]).map V.ref ++ [.ref p]))) p = H2 p := upd_ne pF
    have et : (ns.reverse.take (i + 1)).reverse = z1 :: (ns.reverse.take i).reverse := by
      rw [List.take_add_one, hz1]
      simp only [Option.toList_some, List.reverse_append, List.reverse_cons, List.reverse_nil, List.nil_append, List.singleton_append]
    have pn : ∀ t ∈ us ++ [s], t ≠ p := fun t ht z => by
      subst z
      obtain ⟨k, hk⟩ := List.mem_iff_getElem?.mp ht
      have hkl := (List.getElem?_eq_some_iff.mp hk).1
      have := sa.2 k t _ hk (List.getElem?_eq_getElem (by rw [← sa.1]; exact hkl))
      rw [hp] at this
      cases this
    refine ⟨F, _, _, rfl, rfl, e4 _ _ hF', small1000 (by rw [List.length_map, List.length_append, hl]; show i + 1 ≤ 1000; omega), (e.trans e4).mut hF1, cl _ _ kF (cl _ _ (But.of e4) hr), p, us ++ [s], _, ?_, by rw [List.length_append, hl]; rfl, pF, ?_, ?_, ?_, fun t ht => ?_, rfl⟩
    · rw [upd_same, List.map_append (l₂ := [p])]
      rfl
    · rw [et, hsp, h4, headS_cons]
    · rw [et, stairsF_cons, List.reverse_cons]
      refine ((sa.ex e4).but kF fun t ht => (fr t ht).2).snoc ?_
      rw [hsp, h4]
    · rw [List.nodup_append]
      exact ⟨nd, List.nodup_cons.mpr ⟨(fun z => by cases z), List.nodup_nil⟩, fun a ha b hb e => by
        rw [List.mem_singleton] at hb
        exact pn a ha (e.trans hb)⟩
    · rcases List.mem_append.mp ht with h | h
      · exact fr t h
      · rw [List.mem_singleton] at h
        subst h
        exact ⟨fresh_back e hp, pF⟩
  have fin : ∀ (Pr : Hp → Prop) (σ : L2.St) (H' : Hp), (Ex H H' ∧ Pr H' ∧ ∃ (s : Addr) (us : List Addr) (v : Option V), H' F = some (.lst ((us ++ [s]).map V.ref)) ∧ us.length = (ns.reverse.map V.int).length ∧ s ≠ F ∧ H' s = some (.lst ((headS T2 (zerosO T2.length) (ns.reverse.take (ns.reverse.map V.int).length).reverse).map optV)) ∧ StrAt H' (us ++ [s]) (stairsF T2 (zerosO T2.length) (ns.reverse.take (ns.reverse.map V.int).length).reverse).reverse ∧ (us ++ [s]).Nodup ∧ (∀ t ∈ us ++ [s], H t = none ∧ t ≠ F) ∧ σ = [some (.ref a), some (.ref b), some (.ref F), v]) →
      tRet (tRevL K (tVar 2)) { nx := fun _ H' => Q .non H', rt := Q } σ H' := by
    rintro Pr σ H' ⟨e, hr, s, us, v, hF', hl, sF, hs, sa, nd, fr, rfl⟩
    rw [List.length_map, List.take_length, List.reverse_reverse] at sa
    refine ⟨_, rfl, F, _, rfl, SqL.of hF', fun p hp => q p (us ++ [s]).reverse _ (e.trans (Ex.new hp)) (fresh_back e hp) (by rw [upd_same, List.map_reverse]) ?_ ((List.reverse_perm _).symm.nodup nd) fun t ht => ?_⟩
    · have := (sa.ex (Ex.new (o := .lst ((us ++ [s]).map V.ref).reverse) hp)).rev
      rw [List.reverse_reverse] at this
      exact this
    · have ht' := List.mem_reverse.mp ht
      refine ⟨(fr t ht').1, fun z => ?_⟩
      subst z
      obtain ⟨k, hk⟩ := List.mem_iff_getElem?.mp ht'
      have hkl := (List.getElem?_eq_some_iff.mp hk).1
      have := sa.2 k t _ hk (List.getElem?_eq_getElem (by rw [← sa.1]; exact hkl))
      rw [hp] at this
      cases this
  have zF : z ≠ F := by
    rintro rfl
    rw [hFF] at hzz
    have := HO.lst.inj (Option.some.inj hzz)
    cases hT2 : T2.length with
    | zero => rw [hT2] at this; cases this
    | succ k => rw [hT2] at this; cases this
  have z0 : H z = none := fresh_back e0 hz0
  have start : ∀ (Pr : Hp → Prop) (H' : Hp), Ex H1 H' → Pr H' → (Ex H H' ∧ Pr H' ∧ ∃ (s : Addr) (us : List Addr) (v : Option V), H' F = some (.lst ((us ++ [s]).map V.ref)) ∧ us.length = 0 ∧ s ≠ F ∧ H' s = some (.lst ((headS T2 (zerosO T2.length) (ns.reverse.take 0).reverse).map optV)) ∧ StrAt H' (us ++ [s]) (stairsF T2 (zerosO T2.length) (ns.reverse.take 0).reverse).reverse ∧ (us ++ [s]).Nodup ∧ (∀ t ∈ us ++ [s], H t = none ∧ t ≠ F) ∧ [some (.ref a), some (.ref b), some (.ref F), none] = [some (.ref a), some (.ref b), some (.ref F), v]) :=
    fun Pr H2 e hr => ⟨e2.trans e, hr, z, [], none, e _ _ hFF, rfl, zF, e _ _ hzz, ⟨rfl, fun i t s h1 h2 => by
      match i, h1, h2 with
      | 0, h1, h2 => cases Option.some.inj h1; cases Option.some.inj h2; exact e _ _ hzz⟩, List.nodup_cons.mpr ⟨(fun z => by cases z), List.nodup_nil⟩, fun t ht => by
      have ht : t = z := List.mem_singleton.mp ht
      subst ht
      exact ⟨z0, zF⟩, rfl⟩
  have er : (ns.map V.int).reverse = ns.reverse.map V.int := (List.map_reverse ..).symm
  rcases ha with ha2 | ha2
  · refine .inl ⟨_, rfl, a, _, rfl, .inl ⟨ex_l e2 ha2, fun r hr0 => ?_⟩⟩
    have e3 := Ex.new (o := .lst (ns.map V.int).reverse) hr0
    have rF : r ≠ F := by rintro rfl; rw [hFF] at hr0; cases hr0
    have h0 : SqL K (upd H1 r (.lst (ns.map V.int).reverse)) r (ns.reverse.map V.int) := by rw [← er]; exact SqL.of upd_same
    exact ⟨r, rfl, ⟨_, h0⟩, for_list (xs := ns.reverse.map V.int) _ (start (fun G => SqL K G r (ns.reverse.map V.int)) _ e3 h0) (fun i σ H' _ p => p.2.1) (fun i x σ H' hx p => turn (fun G => SqL K G r (ns.reverse.map V.int)) (fun _ _ k h => k.sql rF h) i x σ H' hx p) (fun σ H' p => fin (fun G => SqL K G r (ns.reverse.map V.int)) σ H' p)⟩
  · refine .inr ⟨_, rfl, a, _, rfl, .inr ⟨ex_t e2 ha2, fun r hr0 => ?_⟩⟩
    have e3 := Ex.new (o := .tup (ns.map V.int).reverse) hr0
    have rF : r ≠ F := by rintro rfl; rw [hFF] at hr0; cases hr0
    have h0 : SqT K (upd H1 r (.tup (ns.map V.int).reverse)) r (ns.reverse.map V.int) := by rw [← er]; exact SqT.of upd_same
    exact ⟨r, rfl, ⟨_, h0⟩, for_tup (xs := ns.reverse.map V.int) _ (start (fun G => SqT K G r (ns.reverse.map V.int)) _ e3 h0) (fun i σ H' _ p => p.2.1) (fun i x σ H' hx p => turn (fun G => SqT K G r (ns.reverse.map V.int)) (fun _ _ k h => k.sqt rF h) i x σ H' hx p) (fun σ H' p => fin (fun G => SqT K G r (ns.reverse.map V.int)) σ H' p)⟩
end
end L2.U


set_option Elab.async false
set_option linter.all false
set_option maxRecDepth 100000
set_option maxHeartbeats 4000000
namespace L2.U
open PySem PySem.Spec PyProof.Rows Evl
/-! ## methods: with arguments by position or by name; they may raise -/
structure MethAt (K : PySem.W.Frag) (C : Addr) (m q : Str) (st : Stmt) (ps : List Str) where
  a : Addr
  fd : FuncData
  F : Fun K m q st a fd
  b : Binds K fd ps []
  M : Meth K C m a
def tMX (C : Addr) (m : Str) (sp : Sp) (E : St → XK) (ta : TE) (t : TA) : TE := fun σ H Q => ta σ H fun x H1 => ∃ a dx fs, x = .ref a ∧ H1 a = some (.ins C dx fs) ∧ fs.lookup m = none ∧ t σ H1 fun vs H2 => sp (x :: vs) H2 Q (E σ)
def tMKw (C : Addr) (m : Str) (sp : Sp) (pm : List V → List V → List V) (E : St → XK) (ta : TE) (t : TA) : TE := fun σ H Q => ta σ H fun x H1 => ∃ a dx fs, x = .ref a ∧ H1 a = some (.ins C dx fs) ∧ fs.lookup m = none ∧
  t σ H1 fun zs H2 => sp (pm [x] zs) H2 Q (E σ)
section
variable {X : Cx} {CX : CXT} {k : Nat} {f C : Addr} {fd : FuncData} {ps ks : List Str} {sp : Sp} {E : St → XK} {m : Str} {pos apos : Pos} {e o : Expr} {es : List Expr} {kws : List Keyword} {ta : TE} {t tk : TA}
  {g : List Value → List Value → List Value} {gV : List V → List V → List V}
theorem pe_mX {pl : Sem Bool} (he : PE X o ta) (c : Cls X.K C) (hm : Meth X.K C m f) (F : FnOk X.prog X.w X.K X.mg X.base CX k f fd ps sp) (hr : Room k X.A) (hb : Binds X.K fd ps []) (hx : ∀ σ, PassesAt CX X σ (E σ)) (ha : PA X (e :: es) t)
    (hst : starEach (e :: es) X.env = (false, eval e X.env) :: starEach es X.env := by rfl) (hpl : (backTo pos (starEach es X.env)).any (·.1) = false := by rfl)
    (ht : eval (.Call (.Attribute o m apos) (e :: es) [] pos) X.env = (do
      let ov ← eval o X.env; standAt apos.atName; let (f, first) ← holding [ov] (getMethod ov m pl)
      callWith pos f first (backTo pos (starEach (e :: es) X.env)) (backToKw pos (keywordEach [] X.env))) := by rfl) :
    PE X (.Call (.Attribute o m apos) (e :: es) [] pos) (tMX C m sp E ta t) := by
  constructor
  intro pins s σ H Q I h
  refine PySem.W.methodCall_KW (pl := pl) (thn (he.run pins s σ H _ I h) ?_) ht
  rintro u s1 ⟨x, H1, I1, rx, a, dx, fs, rfl, ea, l, q⟩
  obtain rfl : u = Value.ref a := rx
  refine getmeth_ok I1 ea c hm l (PySem.W.callWith_K (first := [.ref a]) (h₀ := X.base) I.ok.mod.kin hm.kp (thn (ha.run pos pins s1 σ H1 _ I1 q) ?_) hst hpl)
  rintro us s2 ⟨vs, H2, I2, r, q2⟩
  exact ⟨I2.kIn, run_fnS (us := .ref a :: us) (vs := .ref a :: vs) F hr hb (hx σ) I2 (.cons rfl r) q2⟩
theorem pe_mX0 {pl : Sem Bool} (he : PE X o ta) (c : Cls X.K C) (hm : Meth X.K C m f) (F : FnOk X.prog X.w X.K X.mg X.base CX k f fd ps sp) (hr : Room k X.A) (hb : Binds X.K fd ps []) (hx : ∀ σ, PassesAt CX X σ (E σ))
    (ht : eval (.Call (.Attribute o m apos) [] [] pos) X.env = (do
      let ov ← eval o X.env; standAt apos.atName; let (f, first) ← holding [ov] (getMethod ov m pl)
      callWith pos f first (backTo pos (starEach [] X.env)) (backToKw pos (keywordEach [] X.env))) := by rfl) :
    PE X (.Call (.Attribute o m apos) [] [] pos) (tMX C m sp E ta tNil) := by
  constructor
  intro pins s σ H Q I h
  refine PySem.W.methodCall_KW (pl := pl) (thn (he.run pins s σ H _ I h) ?_) ht
  rintro u s1 ⟨x, H1, I1, rx, a, dx, fs, rfl, ea, l, q⟩
  obtain rfl : u = Value.ref a := rx
  exact getmeth_ok I1 ea c hm l (PySem.W.callWith_K0 (first := [.ref a]) I1.kIn hm.kp (run_fnS (us := [.ref a]) (vs := [.ref a]) F hr hb (hx σ) I1 (.cons rfl .nil) q))
theorem pe_mKw {pl : Sem Bool} (he : PE X o ta) (c : Cls X.K C) (hm : Meth X.K C m f) (F : FnOk X.prog X.w X.K X.mg X.base CX k f fd ps sp) (hr : Room k X.A) (hb : KBinds X.K fd ps ks g gV) (hx : ∀ σ, PassesAt CX X σ (E σ)) (hkw : PK X kws tk)
    (hall : (backToKw pos (keywordEach kws X.env)).all (·.1.isSome) = true := by rfl) (hks : (backToKw pos (keywordEach kws X.env)).filterMap (·.1) = ks := by rfl)
    (hpl : ((backTo pos (starEach [] X.env)).any (·.1) || (backToKw pos (keywordEach kws X.env)).any (·.1.isNone)) = false := by rfl)
    (ht : eval (.Call (.Attribute o m apos) [] kws pos) X.env = (do
      let ov ← eval o X.env; standAt apos.atName; let (f, first) ← holding [ov] (getMethod ov m pl)
      callWith pos f first (backTo pos (starEach [] X.env)) (backToKw pos (keywordEach kws X.env))) := by rfl) :
    PE X (.Call (.Attribute o m apos) [] kws pos) (tMKw C m sp gV E ta tk) := by
  constructor
  intro pins s σ H Q I h
  refine PySem.W.methodCall_KW (pl := pl) (thn (he.run pins s σ H _ I h) ?_) ht
  rintro u s1 ⟨x, H1, I1, rx, a, dx, fs, rfl, ea, l, q⟩
  obtain rfl : u = Value.ref a := rx
  refine getmeth_ok I1 ea c hm l (PySem.W.callWith_KW0 (first := [.ref a]) (h₀ := X.base) I.ok.mod.kin hm.kp hall (thn (hkw.run pos pins s1 σ H1 _ I1 q) ?_) hpl)
  rintro ws s2 ⟨zs, H2, I2, rz, q2⟩
  refine ⟨I2.kIn, ?_⟩
  rw [hks]
  have r2 : Vals (gV [.ref a] zs) (g [.ref a] ws) := hb.rel (.cons rfl .nil) rz
  have hl : (g [.ref a] ws).length = ps.length := by rw [← r2.length]; exact F.len _ _ _ _ q2
  refine wpAny_call (codeAny_mono (F.run X.A X.stack s2 H2 ⟨[.ref a], ks.zip ws⟩ (g [.ref a] ws) (gV [.ref a] zs) Q (E σ) hr I2.env0 (hb.to s2 [.ref a] ws I2.kIn hl) r2 q2) ?_)
  intro r s' hq
  cases r with
  | error e => exact hx σ pins H2 s2 e s' I2 hq
  | ok fl => cases fl with
    | ret u => exact I2.after hq
    | next => exact False.elim hq
    | brk => exact False.elim hq
    | cont => exact False.elim hq
theorem passLAt {X : Cx} {σ : St} : PassesAt (L2.CX X.prog X.w) X σ E0 := fun pins H s e s' I c => passL pins σ H s e s' I c
end
/-! ## a range that stands in a name, walked -/
def iRngV (tl : TE) : TI := fun σ H R => tl σ H fun x H1 => ∃ (a : Addr) (lo hi : Int), x = .ref a ∧ H1 a = some (.rng lo hi) ∧ (-(2 ^ 62) ≤ lo ∧ lo < 2 ^ 62 ∧ -(2 ^ 62) ≤ hi ∧ hi < 2 ^ 62) ∧ R (Itr lo (hi - lo).toNat) H1
theorem pi_rngv {X : Cx} {tg l : Expr} {tl : TE} (hl : PE X l tl) : PI X tg l (iRngV tl) := by
  constructor
  intro pins s σ H R I h
  refine thn (hl.run pins s σ H _ I h) ?_
  rintro v s1 ⟨x, H1, I1, rx, a, lo, hi, rfl, ea, ⟨h1, h2, h3, h4⟩, q⟩
  obtain rfl : v = Value.ref a := rx
  obtain ⟨t, u, w, ho⟩ := (show ∃ t u v, s1.heap.get? a = some { cls := .type "range", data := .fields #[.int lo t, .int hi u, .int 1 v] } from I1.hok a _ ea)
  refine wpAny_pyIter_range (show IsRange s1.heap a lo hi 1 t u w from ho) (small_one h1 h2 h3 h4) ?_
  refine ⟨s1.heap.objs.size, [s1.heap.objs.size], _, _, H1, rfl, I1.kept (t' := s1.toks) fun b o e => Heap.get?_push_of_some _ e, turn_range _ lo (hi - lo).toNat, ?_, ?_, q⟩
  · have e1 : lo + ((0 : Nat) : Int) * 1 = lo := by simp
    have e2 : (((hi - lo).toNat : Nat) : Int) - ((0 : Nat) : Int) = Builtin.Range.rangeSize lo hi 1 := by
      rw [rangeSize_one]; split <;> omega
    show IsRangeIter _ _ (lo + ((0 : Nat) : Int) * 1) ((((hi - lo).toNat : Nat) : Int) - ((0 : Nat) : Int)) 1
    rw [e1, e2]
    exact Heap.get?_push_size _ rfl
  · intro b hb
    obtain rfl : b = s1.heap.objs.size := by simpa using hb
    exact I1.fpOk (Nat.le_refl _) (I1.hok.fresh (Nat.le_refl _))
/-- x in ints -/
theorem inV_ints {i : Int} {ns : List Int} : inV (.int i) (ns.map V.int) = decide (i ∈ ns) := by
  unfold inV
  induction ns with
  | nil => rfl
  | cons n r ih =>
    rw [List.map_cons, List.any_cons, ih]
    have e : eqV (.int n) (.int i) = decide (i = n) := by
      show (n == i) = decide (i = n)
      rw [Bool.beq_eq_decide_eq]
      exact decide_eq_decide.mpr eq_comm
    rw [e]
    by_cases c : i = n <;> simp [c]
theorem flat_ints {ns : List Int} : (ns.map V.int).all flatV = true := by
  rw [List.all_map, List.all_eq_true]
  intro x _
  rfl
end L2.U


set_option Elab.async false
set_option linter.all false
set_option maxRecDepth 100000
set_option maxHeartbeats 4000000
namespace L2.U
open PySem PySem.Spec PyProof.Rows Evl
/-! ## C(..): an __init__ that may raise -/
def tMakeX (C : Addr) (sp : Sp) (E : St → XK) (t : TA) : TE := fun σ H Q => t σ H fun vs H1 => ∀ x dx, H1 x = none → H1 dx = none → dx ≠ x →
  sp (.ref x :: vs) (upd (upd H1 dx (.own x)) x (.ins C dx [])) (fun v H2 => v = .non ∧ Q (.ref x) H2) (E σ)
def tMakeKX (C : Addr) (m : Nat) (sp : Sp) (gV : List V → List V → List V) (E : St → XK) (tk : TA) : TE := fun σ H Q => tk σ H fun zs H2 => zs.length = m ∧ ∀ x dx, H2 x = none → H2 dx = none → dx ≠ x →
  sp (gV [.ref x] zs) (upd (upd H2 dx (.own x)) x (.ins C dx [])) (fun v H3 => v = .non ∧ Q (.ref x) H3) (E σ)
section
variable {X : Cx} {CX : CXT} {k : Nat} {f C : Addr} {fd : FuncData} {ps ks : List Str} {sp : Sp} {E : St → XK} {x : Str} {p pos : Pos} {e : Expr} {es : List Expr} {kws : List Keyword} {t tk : TA} {g : List Value → List Value → List Value} {gV : List V → List V → List V}
theorem run_makeX {pins : List (Addr × Obj)} {σ : St} {H : Hp} {s : Shared} {Q : VK} {us : List Value} {vs : List V} (M : Mk X.K C f) (F : FnOk X.prog X.w X.K X.mg X.base CX k f fd ps sp) (hr : Room (k + 1) X.A) (hb : Binds X.K fd ps [])
    (hx : PassesAt CX X σ (E σ)) (I : Inv X pins σ H s) (r : Vals vs us)
    (h : ∀ x dx, H x = none → H dx = none → dx ≠ x → sp (.ref x :: vs) (upd (upd H dx (.own x)) x (.ins C dx [])) (fun v H2 => v = .non ∧ Q (.ref x) H2) (E σ)) :
    wpAny (model X.prog X.w) X.A (call (.ref C) us) (EP X pins σ Q) X.xe s := by
  have hq := h (s.heap.objs.size + 1) s.heap.objs.size (I.hok.fresh (Nat.le_succ _)) (I.hok.fresh (Nat.le_refl _)) (Nat.ne_of_lt (Nat.lt_succ_self _))
  have I2 := Inv.made (C := C) I
  have r2 : Vals (V.ref (s.heap.objs.size + 1) :: vs) (Value.ref (s.heap.objs.size + 1) :: us ++ []) := by rw [List.append_nil]; exact .cons rfl r
  have hl : (Value.ref (s.heap.objs.size + 1) :: us ++ []).length = ps.length := by
    have e := r2.length
    rw [F.len _ _ _ _ hq] at e
    exact e.symm
  refine wpAny_call (make_map (f := f) I.kIn M.makes M.init (beq_iff_eq.mp M.fn) (codeAny_mono (F.run _ X.stack _ _ ⟨Value.ref (s.heap.objs.size + 1) :: us, []⟩ (Value.ref (s.heap.objs.size + 1) :: us ++ []) _ _ (E σ) (hr.make C us [])
    (I2.env0.make C us []) (hb _ (Value.ref (s.heap.objs.size + 1) :: us) I2.kIn hl) r2 hq) fun r s' hq' => ?_))
  cases r with
  | error e => exact hx pins _ _ e s' I2 hq'
  | ok fl =>
    cases fl with
    | ret u =>
      obtain ⟨v, H', I3, rv, ev, q3⟩ := I2.after hq'
      subst ev
      exact ⟨rv, ⟨V.ref (s.heap.objs.size + 1), H', I3, rfl, q3⟩⟩
    | next => exact False.elim hq'
    | brk => exact False.elim hq'
    | cont => exact False.elim hq'
theorem pe_makeX (M : Mk X.K C f) (F : FnOk X.prog X.w X.K X.mg X.base CX k f fd ps sp) (hr : Room (k + 1) X.A) (hg : Gl X x) (hm : X.mg x = some (.ref C)) (hb : Binds X.K fd ps []) (hx : ∀ σ, PassesAt CX X σ (E σ))
    (ha : PA X (e :: es) t) (hdb : (x == ("__debug__" : Str)) = false := by decide) (he : starEach (e :: es) X.env = (false, eval e X.env) :: starEach es X.env := by rfl) (hpl : (backTo pos (starEach es X.env)).any (·.1) = false := by rfl) :
    PE X (.Call (.Name x p) (e :: es) [] pos) (tMakeX C sp E t) := by
  refine ⟨fun pins s σ H Q I h => ?_⟩
  refine wpAny_Call_Name_kw (ld_glob I hg hm ?_ hdb)
  refine PySem.W.callWith_K (h₀ := X.base) I.ok.mod.kin M.kp (thn (ha.run pos pins s σ H _ I h) fun us s1 ⟨vs, H1, I1, r, q⟩ => ⟨I1.kIn, ?_⟩) he hpl
  exact run_makeX M F hr hb (hx σ) I1 r q
theorem run_makeKX {pins : List (Addr × Obj)} {σ : St} {H : Hp} {s : Shared} {Q : VK} {ws : List Value} {zs : List V} (M : Mk X.K C f) (F : FnOk X.prog X.w X.K X.mg X.base CX k f fd ps sp) (hr : Room (k + 1) X.A) (hb : KBn X.K fd ps 1 ks g gV)
    (hx : PassesAt CX X σ (E σ)) (I : Inv X pins σ H s) (rz : Vals zs ws) (l2 : zs.length = ks.length)
    (h : ∀ x dx, H x = none → H dx = none → dx ≠ x → sp (gV [.ref x] zs) (upd (upd H dx (.own x)) x (.ins C dx [])) (fun v H2 => v = .non ∧ Q (.ref x) H2) (E σ)) :
    wpAny (model X.prog X.w) X.A (call (.ref C) [] (ks.zip ws)) (EP X pins σ Q) X.xe s := by
  have hq := h (s.heap.objs.size + 1) s.heap.objs.size (I.hok.fresh (Nat.le_succ _)) (I.hok.fresh (Nat.le_refl _)) (Nat.ne_of_lt (Nat.lt_succ_self _))
  have I2 := Inv.made (C := C) I
  have r1 : Vals [V.ref (s.heap.objs.size + 1)] [Value.ref (s.heap.objs.size + 1)] := .cons rfl .nil
  have r2 := hb.rel r1 rz
  refine wpAny_call (make_map (f := f) I.kIn M.makes M.init (beq_iff_eq.mp M.fn) (codeAny_mono (F.run _ X.stack _ _ ⟨[Value.ref (s.heap.objs.size + 1)], ks.zip ws⟩ (g [Value.ref (s.heap.objs.size + 1)] ws) _ _ (E σ) (hr.make C [] (ks.zip ws))
    (I2.env0.make C [] (ks.zip ws)) (hb.to _ [Value.ref (s.heap.objs.size + 1)] ws I2.kIn rfl (rz.length.symm.trans l2)) r2 hq) fun r s' hq' => ?_))
  cases r with
  | error e => exact hx pins _ _ e s' I2 hq'
  | ok fl =>
    cases fl with
    | ret u =>
      obtain ⟨v, H', I3, rv, ev, q3⟩ := I2.after hq'
      subst ev
      exact ⟨rv, ⟨V.ref (s.heap.objs.size + 1), H', I3, rfl, q3⟩⟩
    | next => exact False.elim hq'
    | brk => exact False.elim hq'
    | cont => exact False.elim hq'
theorem pe_makeKX (M : Mk X.K C f) (F : FnOk X.prog X.w X.K X.mg X.base CX k f fd ps sp) (hr : Room (k + 1) X.A) (hg : Gl X x) (hm : X.mg x = some (.ref C)) (hb : KBn X.K fd ps 1 ks g gV) (hx : ∀ σ, PassesAt CX X σ (E σ)) (hkw : PK X kws tk)
    (hall : (backToKw pos (keywordEach kws X.env)).all (·.1.isSome) = true := by rfl) (hks : (backToKw pos (keywordEach kws X.env)).filterMap (·.1) = ks := by rfl) (hdb : (x == ("__debug__" : Str)) = false := by decide)
    (hpl : ((backTo pos (starEach [] X.env)).any (·.1) || (backToKw pos (keywordEach kws X.env)).any (·.1.isNone)) = false := by rfl) :
    PE X (.Call (.Name x p) [] kws pos) (tMakeKX C ks.length sp gV E tk) := by
  refine ⟨fun pins s σ H Q I h => ?_⟩
  refine wpAny_Call_Name_kw (ld_glob I hg hm ?_ hdb)
  refine PySem.W.callWith_KW0 (h₀ := X.base) I.ok.mod.kin M.kp hall ?_ hpl
  refine thn (hkw.run pos pins s σ H _ I h) fun ws s2 ⟨zs, H2, I2, rz, l2, q2⟩ => ⟨I2.kIn, ?_⟩
  rw [hks]
  exact run_makeKX M F hr hb (hx σ) I2 rz l2 q2
end
end L2.U


set_option Elab.async false
set_option linter.all false
set_option maxRecDepth 100000
set_option maxHeartbeats 4000000
namespace L2.U
open PySem PySem.Spec PyProof.Rows Evl


section
variable {P : Program} {w : World} {K : PySem.W.Frag} {mg : Str → Option Value} {base : Heap}
/-- data in which own objects and dicts may stand: told as an empty dict -/
inductive Ro (K : PySem.W.Frag) (C : Addr) (ok : Addr → Prop) (H : Hp) : Nat → V → PyData → Prop
  | non {n} : Ro K C ok H n .non .none
  | bl {n} (b : Bool) : Ro K C ok H n (.bl b) (.bool b)
  | int {n} (i : Int) : Ro K C ok H n (.int i) (.int i)
  | str {n} (z : Str) (h : z.length ≤ 1000) (h2 : PyData.strOk z = true) : Ro K C ok H n (.str z) (.str z)
  | lst {n} {a : Addr} {xs : List V} {ds : List PyData} (h : H a = some (.lst xs)) (ha : ok a) (hl : xs.length = ds.length) (hz : xs.length ≤ 900)
      (all : ∀ (i : Nat) (x : V) (d : PyData), xs[i]? = some x → ds[i]? = some d → Ro K C ok H n x d) : Ro K C ok H (n + 1) (.ref a) (.list ds)
  | tup {n} {a : Addr} {xs : List V} {ds : List PyData} (h : SqT K H a xs) (ha : ok a) (hl : xs.length = ds.length) (hz : xs.length ≤ 900)
      (all : ∀ (i : Nat) (x : V) (d : PyData), xs[i]? = some x → ds[i]? = some d → Rd K ok H n x d) : Ro K C ok H (n + 1) (.ref a) (.tuple ds)
  | dct {n} {a : Addr} (h : H a = some (.dK [])) : Ro K C ok H n (.ref a) (.dict [])
  | own {n} {a dx : Addr} {fs : List (Str × V)} (h : H a = some (.ins C dx fs)) : Ro K C ok H n (.ref a) (.dict [])
section
variable {C : Addr} {ok ok' : Addr → Prop} {H H' : Hp} {n m : Nat} {x : V} {d : PyData}
theorem Ro.ex (e : Ex H H') (h : Ro K C ok H n x d) : Ro K C ok H' n x d := by
  induction h with
  | non => exact .non
  | bl b => exact .bl b
  | int i => exact .int i
  | str z h h2 => exact .str z h h2
  | lst h ha hl hz _ ih => exact .lst (e _ _ h) ha hl hz ih
  | tup h ha hl hz all => exact .tup (ex_t e h) ha hl hz fun i x d hx hd => (all i x d hx hd).ex e
  | dct h => exact .dct (e _ _ h)
  | own h => exact .own (e _ _ h)
theorem Ro.of (w : ∀ a, ok a → ok' a) (h : Ro K C ok H n x d) : Ro K C ok' H n x d := by
  induction h with
  | non => exact .non
  | bl b => exact .bl b
  | int i => exact .int i
  | str z h h2 => exact .str z h h2
  | lst h ha hl hz _ ih => exact .lst h (w _ ha) hl hz ih
  | tup h ha hl hz all => exact .tup h (w _ ha) hl hz fun i x d hx hd => (all i x d hx hd).of w
  | dct h => exact .dct h
  | own h => exact .own h
theorem Ro.but {b : Addr} {ys : List V} (hb : H b = some (.lst ys)) (k : But b H H') (w : ∀ a, ok a → a ≠ b) (h : Ro K C ok H n x d) : Ro K C ok H' n x d := by
  induction h with
  | non => exact .non
  | bl b => exact .bl b
  | int i => exact .int i
  | str z h h2 => exact .str z h h2
  | lst h ha hl hz _ ih => exact .lst (k _ _ (w _ ha) h) ha hl hz ih
  | tup h ha hl hz all => exact .tup (k.sqt (w _ ha) h) ha hl hz fun i x d hx hd => (all i x d hx hd).but k w
  | dct h => exact .dct (k _ _ (ne_of h hb (by intro z; cases z)) h)
  | own h => exact .own (k _ _ (ne_of h hb (by intro z; cases z)) h)
theorem Ro.succ (h : Ro K C ok H n x d) : Ro K C ok H (n + 1) x d := by
  induction h with
  | non => exact .non
  | bl b => exact .bl b
  | int i => exact .int i
  | str z h h2 => exact .str z h h2
  | lst h ha hl hz _ ih => exact .lst h ha hl hz ih
  | tup h ha hl hz all => exact .tup h ha hl hz fun i x d hx hd => (all i x d hx hd).succ
  | dct h => exact .dct h
  | own h => exact .own h
theorem Ro.le (h : Ro K C ok H n x d) (l : n ≤ m) : Ro K C ok H m x d := by
  induction l with
  | refl => exact h
  | step _ ih => exact ih.succ
theorem Ro.rd (h : Rd K ok H n x d) : Ro K C ok H n x d := by
  induction h with
  | non => exact .non
  | bl b => exact .bl b
  | int i => exact .int i
  | str z h h2 => exact .str z h h2
  | lst h1 ha hl hz _ ih => exact .lst h1 ha hl hz ih
  | tup h1 ha hl hz all _ => exact .tup h1 ha hl hz all
theorem Ro.seq (h : Ro K C ok H n x d) (s : isSeq d = true) : ∃ a xs, x = .ref a ∧ (SqL K H a xs ∧ d = .list (itemsD d) ∨ SqT K H a xs ∧ d = .tuple (itemsD d)) ∧ xs.length = (itemsD d).length ∧ xs.length ≤ 900 ∧
    ∀ (i : Nat) (x : V) (e : PyData), xs[i]? = some x → (itemsD d)[i]? = some e → Ro K C ok H (n - 1) x e := by
  cases h with
  | lst h ha hl hz all => exact ⟨_, _, rfl, .inl ⟨SqL.of h, rfl⟩, hl, hz, all⟩
  | tup h ha hl hz all => exact ⟨_, _, rfl, .inr ⟨h, rfl⟩, hl, hz, fun i x e hx he => .rd (all i x e hx he)⟩
  | non => cases s
  | bl _ => cases s
  | int _ => cases s
  | str _ _ _ => cases s
  | dct _ => cases s
  | own _ => cases s
end
/-! ### what a value is, beside stairs -/
def optD : PyData → Option (Option Int)
  | .none => some none
  | .int i => some (some i)
  | _ => none
/-- a line of stairs: the options that it holds -/
def lineD (s : List (Option Int)) (d : PyData) : Bool := isSeq d && decide ((itemsD d).map optD = s.map some)
def holdD (S : List (List (Option Int))) (d : PyData) : Bool := isSeq d && decide ((itemsD d).length = S.length) && (List.range S.length).all fun i => lineD (S.getD i []) ((itemsD d).getD i .none)
def stairD (d : PyData) : Bool := isSeq d && (itemsD d).all fun e => (optD e).isSome
structure ClsAt (K : PySem.W.Frag) (C : Addr) : Prop where
  cl : Cls K C
  ha : PySem.W.findIn K (.ref C) "__class__" = some (some (.builtin "object.__class__"))
  hn : PySem.W.specialIn K (.builtin "object.__class__") "__get__" = some (some (.builtin "getset_descriptor.__get__"))
  htk : PySem.W.takesIn K (.builtin "object.__class__") = some true
  hm : PySem.W.mroIn K C (.type "object") = some true
  no : ∀ t ∈ ["list", "tuple", "int", "bool", "str", "dict"], PySem.W.subIn K (.ref C) (.type t) = some false
  ic : (PySem.W.clsIn K C).isSome = true
  ty : PySem.W.typeIn K (.ref C) = some (.type "type")
  su : ∀ t ∈ ["NoneType", "bool", "int", "str", "list", "tuple", "dict"], PySem.W.subIn K (.type t) (.ref C) = some false
theorem ClsAt.kitC {C : Addr} (c : ClsAt K C) {t : String} (h : t ∈ ["NoneType", "bool", "int", "str", "list", "tuple", "dict"]) : PySem.W.kitOne K (.type t) (.ref C) = some false := by
  unfold PySem.W.kitOne PySem.W.kitCls
  rw [if_neg (by show ¬ ((Value.type t == Value.ref C) = true); simp)]
  show (if ((PySem.W.clsIn K C).isSome && PySem.W.typeIn K (.ref C) == some (.type "type")) = true then PySem.W.subIn K (.type t) (.ref C) else none) = some false
  rw [if_pos (by rw [c.ic, c.ty]; rfl)]
  exact c.su t h
theorem ClsAt.kitS {C : Addr} : PySem.W.kitOne K (.ref C) (.ref C) = some true := by
  unfold PySem.W.kitOne
  rw [if_pos (by simp)]
theorem ClsAt.kit {C : Addr} (c : ClsAt K C) {t : String} (h : t ∈ ["list", "tuple", "int", "bool", "str", "dict"]) (hm : PySem.W.kitMeta t = true) : PySem.W.kitOne K (.ref C) (.type t) = some false := by
  unfold PySem.W.kitOne PySem.W.kitCls
  have : ((Value.ref C == Value.type t) = true) = False := by simp
  rw [if_neg (by rw [this]; exact id)]
  show (if PySem.W.kitMeta t = true then PySem.W.subIn K (Value.ref C) (Value.type t) else none) = some false
  rw [if_pos hm]
  exact c.no t h
/-- one answer for one class -/
def isD (t : String) : PyData → Bool
  | .list _ => t == "list"
  | .tuple _ => t == "tuple"
  | .int _ => t == "int"
  | .bool _ => t == "int" || t == "bool"
  | _ => false
theorem Ro.isi {C : Addr} {ok : Addr → Prop} {H : Hp} {n : Nat} {x : V} {d : PyData} (c : ClsAt K C) (h : Ro K C ok H n x d) : ∃ t : Value, TyX K H x t ∧ PySem.W.kitOne K t (.type "list") = some (isD "list" d) ∧ PySem.W.kitOne K t (.type "tuple") = some (isD "tuple" d) ∧ PySem.W.kitOne K t (.type "int") = some (isD "int" d) ∧ PySem.W.kitOne K t (.type "bool") = some (isD "bool" d) := by
  cases h with
  | non => exact ⟨_, .base .non, kit_ty (by decide +kernel), kit_ty (by decide +kernel), kit_ty (by decide +kernel), kit_ty (by decide +kernel)⟩
  | bl b => exact ⟨_, .base (.bl b), kit_ty (by show kitB "bool" "list" = some false; decide +kernel), kit_ty (by show kitB "bool" "tuple" = some false; decide +kernel), kit_ty (by show kitB "bool" "int" = some true; decide +kernel), kit_ty (by show kitB "bool" "bool" = some true; decide +kernel)⟩
  | int i => exact ⟨_, .base (.int i), kit_ty (by show kitB "int" "list" = some false; decide +kernel), kit_ty (by show kitB "int" "tuple" = some false; decide +kernel), kit_ty (by show kitB "int" "int" = some true; decide +kernel), kit_ty (by show kitB "int" "bool" = some false; decide +kernel)⟩
  | str z _ _ => exact ⟨_, .base (.str z), kit_ty (by show kitB "str" "list" = some false; decide +kernel), kit_ty (by show kitB "str" "tuple" = some false; decide +kernel), kit_ty (by show kitB "str" "int" = some false; decide +kernel), kit_ty (by show kitB "str" "bool" = some false; decide +kernel)⟩
  | lst h => exact ⟨_, .base (.lst h), kit_ty (by show kitB "list" "list" = some true; decide +kernel), kit_ty (by show kitB "list" "tuple" = some false; decide +kernel), kit_ty (by show kitB "list" "int" = some false; decide +kernel), kit_ty (by show kitB "list" "bool" = some false; decide +kernel)⟩
  | tup h => exact ⟨_, tyT h, kit_ty (by show kitB "tuple" "list" = some false; decide +kernel), kit_ty (by show kitB "tuple" "tuple" = some true; decide +kernel), kit_ty (by show kitB "tuple" "int" = some false; decide +kernel), kit_ty (by show kitB "tuple" "bool" = some false; decide +kernel)⟩
  | dct h => exact ⟨_, .base (.dK h), kit_ty (by show kitB "dict" "list" = some false; decide +kernel), kit_ty (by show kitB "dict" "tuple" = some false; decide +kernel), kit_ty (by show kitB "dict" "int" = some false; decide +kernel), kit_ty (by show kitB "dict" "bool" = some false; decide +kernel)⟩
  | own h => exact ⟨_, .base (.ins h c.cl c.ha c.hn c.htk c.hm), c.kit (by decide) (by decide +kernel), c.kit (by decide) (by decide +kernel), c.kit (by decide) (by decide +kernel), c.kit (by decide) (by decide +kernel)⟩

/-! ### lines told as data -/
def optP : Option Int → PyData
  | none => .none
  | some i => .int i
def lineP (s : List (Option Int)) : PyData := .list (s.map optP)
def linesP (S : List (List (Option Int))) : PyData := .list (S.map lineP)
theorem optD_optP (o : Option Int) : optD (optP o) = some o := by cases o <;> rfl
theorem eqv_opt (a b : Option Int) : PyData.eqv (optP a) (optP b) = decide (a = b) := by
  cases a <;> cases b
  · simp only [optP, PyData.eqv]; rfl
  · simp only [optP, PyData.eqv]; rfl
  · simp only [optP, PyData.eqv]; rfl
  · simp only [optP, PyData.eqv]
    rename_i i j
    rw [Bool.eq_iff_iff, beq_iff_eq, decide_eq_true_eq, Option.some.injEq]
theorem eqvAll_of {α : Type} [DecidableEq α] {f : α → PyData} (h : ∀ a b, PyData.eqv (f a) (f b) = decide (a = b)) : ∀ xs ys : List α, PyData.eqvAll (xs.map f) (ys.map f) = decide (xs = ys)
  | [], [] => by simp only [List.map_nil, PyData.eqvAll, decide_true]
  | [], _ :: _ => by simp [PyData.eqvAll]
  | _ :: _, [] => by simp [PyData.eqvAll]
  | x :: xs, y :: ys => by
    rw [List.map_cons, List.map_cons, PyData.eqvAll, h x y, eqvAll_of h xs ys, ← Bool.decide_and]
    exact decide_eq_decide.mpr (by rw [List.cons.injEq])
theorem eqv_line (a b : List (Option Int)) : PyData.eqv (lineP a) (lineP b) = decide (a = b) := by
  simp only [lineP, PyData.eqv]
  exact eqvAll_of eqv_opt a b
theorem eqv_lines (a b : List (List (Option Int))) : PyData.eqv (linesP a) (linesP b) = decide (a = b) := by
  simp only [linesP, PyData.eqv]
  exact eqvAll_of eqv_line a b
theorem opts_of : ∀ {l : List PyData}, (l.all fun e => (optD e).isSome) = true → ∃ s : List (Option Int), l = s.map optP
  | [], _ => ⟨[], rfl⟩
  | d :: l, h => by
    rw [List.all_cons, Bool.and_eq_true] at h
    obtain ⟨s, rfl⟩ := opts_of h.2
    cases d with
    | none => exact ⟨none :: s, rfl⟩
    | int i => exact ⟨some i :: s, rfl⟩
    | bool _ => cases h.1
    | str _ => cases h.1
    | list _ => cases h.1
    | tuple _ => cases h.1
    | dict _ => cases h.1
theorem map_optD (s : List (Option Int)) : (s.map optP).map optD = s.map some := by
  rw [List.map_map]
  exact List.map_congr_left fun o _ => optD_optP o
theorem map_some_inj {α : Type} : ∀ {s t : List α}, s.map some = t.map some → s = t
  | [], [], _ => rfl
  | [], _ :: _, h => by cases h
  | _ :: _, [], h => by cases h
  | a :: s, b :: t, h => by
    rw [List.map_cons, List.map_cons, List.cons.injEq] at h
    rw [Option.some.inj h.1, map_some_inj h.2]
/-- a value of which each part is a line: what it holds -/
theorem lines_of : ∀ {l : List PyData}, l.all stairD = true → ∃ S : List (List (Option Int)), S.length = l.length ∧ ∀ (i : Nat) (d : PyData) (s : List (Option Int)), l[i]? = some d → S[i]? = some s → isSeq d = true ∧ itemsD d = s.map optP
  | [], _ => ⟨[], rfl, fun i d s h _ => by cases h⟩
  | d :: l, h => by
    rw [List.all_cons, Bool.and_eq_true] at h
    obtain ⟨S, hl, al⟩ := lines_of h.2
    have h1 := h.1
    unfold stairD at h1
    rw [Bool.and_eq_true] at h1
    obtain ⟨s, hs⟩ := opts_of h1.2
    refine ⟨s :: S, by rw [List.length_cons, List.length_cons, hl], fun i e t he ht => ?_⟩
    cases i with
    | zero => cases Option.some.inj he; cases Option.some.inj ht; exact ⟨h1.1, hs⟩
    | succ i => exact al i e t he ht
theorem line_not {s : List (Option Int)} {d : PyData} (h : stairD d = false) : lineD s d = false := by
  rw [Bool.eq_false_iff]
  intro c
  unfold lineD at c
  rw [Bool.and_eq_true] at c
  have c2 := of_decide_eq_true c.2
  unfold stairD at h
  rw [c.1, Bool.true_and, List.all_eq_false] at h
  obtain ⟨e, he, hn⟩ := h
  have : optD e ∈ (itemsD d).map optD := List.mem_map.mpr ⟨e, he, rfl⟩
  rw [c2] at this
  obtain ⟨o, _, ho⟩ := List.mem_map.mp this
  rw [← ho] at hn
  exact hn rfl
theorem line_is {s t : List (Option Int)} {d : PyData} (h : isSeq d = true) (e : itemsD d = t.map optP) : lineD s d = decide (t = s) := by
  unfold lineD
  rw [h, e, map_optD, Bool.true_and]
  exact decide_eq_decide.mpr ⟨map_some_inj, fun z => by rw [z]⟩
theorem hold_not {S : List (List (Option Int))} {d : PyData} (h : (isSeq d && (itemsD d).all stairD) = false) : holdD S d = false := by
  rw [Bool.eq_false_iff]
  intro c
  unfold holdD at c
  rw [Bool.and_eq_true, Bool.and_eq_true] at c
  obtain ⟨⟨c1, c2⟩, c3⟩ := c
  have c2 := of_decide_eq_true c2
  rw [c1, Bool.true_and, List.all_eq_false] at h
  obtain ⟨e, he, hn⟩ := h
  obtain ⟨i, hi, rfl⟩ := List.mem_iff_getElem.mp he
  have := List.all_eq_true.mp c3 i (List.mem_range.mpr (by omega))
  rw [List.getD_eq_getElem?_getD (l := itemsD d), List.getElem?_eq_getElem hi] at this
  rw [show (some (itemsD d)[i]).getD PyData.none = (itemsD d)[i] from rfl, line_not (Bool.eq_false_iff.mpr hn)] at this
  cases this
theorem hold_is {S T : List (List (Option Int))} {d : PyData} (h : isSeq d = true) (hl : T.length = (itemsD d).length) (al : ∀ (i : Nat) (e : PyData) (s : List (Option Int)), (itemsD d)[i]? = some e → T[i]? = some s → isSeq e = true ∧ itemsD e = s.map optP) : holdD S d = decide (T = S) := by
  unfold holdD
  rw [h, Bool.true_and, Bool.eq_iff_iff, Bool.and_eq_true, decide_eq_true_eq, decide_eq_true_eq, List.all_eq_true]
  have at' : ∀ i (hi : i < (itemsD d).length) (hT : i < T.length) (hS : i < S.length), lineD (S.getD i []) ((itemsD d).getD i .none) = decide (T[i] = S[i]) := fun i hi hT hS => by
    have g := al i _ _ (List.getElem?_eq_getElem hi) (List.getElem?_eq_getElem hT)
    rw [List.getD_eq_getElem?_getD, List.getD_eq_getElem?_getD, List.getElem?_eq_getElem hi, List.getElem?_eq_getElem hS]
    exact line_is g.1 g.2
  constructor
  · rintro ⟨e, a⟩
    refine List.ext_getElem (by omega) fun i h1 h2 => ?_
    have := a i (List.mem_range.mpr h2)
    rw [at' i (by omega) h1 h2] at this
    exact of_decide_eq_true this
  · rintro rfl
    refine ⟨hl.symm, fun i hi => ?_⟩
    have hi := List.mem_range.mp hi
    rw [at' i (by omega) hi hi]
    exact decide_eq_true rfl
end
end L2.U


set_option Elab.async false
set_option linter.all false
set_option maxRecDepth 100000
set_option maxHeartbeats 4000000
namespace L2.U
open PySem PySem.Spec PyProof.Rows Evl


section
variable {P : Program} {w : World} {K : PySem.W.Frag} {mg : Str → Option Value} {base : Heap}
def kw321 {α : Type} : List α → List α → List α
  | [], [a, b, c] => [c, b, a]
  | _, _ => []
theorem kw321_rel {vs : List V} {us : List Value} {zs : List V} {ws : List Value} (r : Vals vs us) (t : Vals zs ws) : Vals (kw321 vs zs) (kw321 us ws) := by
  cases r with
  | cons _ _ => cases t <;> exact .nil
  | nil => cases t with
    | nil => exact .nil
    | cons a t => cases t with
      | nil => exact .nil
      | cons b t => cases t with
        | nil => exact .nil
        | cons c t => cases t with
          | nil => exact .cons c (.cons b (.cons a .nil))
          | cons _ _ => exact .nil
theorem kb321 {K : PySem.W.Frag} {x qual : Str} {st : Stmt} {f : Addr} {fd : FuncData} {p q r k l m : Str} (F : Fun K x qual st f fd)
    (h : ∀ (kV doc pm : Value) (an : Option Addr) (cdv ct : Value) (u w z : Value), bindArgs (PySem.W.fnOf x qual (defArgs st) (defBody st) (defScope st) .none kV doc pm an cdv ct) ⟨[], [(k, u), (l, w), (m, z)]⟩ = pure [(p, z), (q, w), (r, u)]) : KBinds K fd [p, q, r] [k, l, m] kw321 kw321 := by
  obtain ⟨oc, od, kV, doc, pm, an, cdv, ct, osl, rfl, lk, hcd⟩ := F.ex
  refine ⟨fun s us ws _ hl => ?_, kw321_rel⟩
  match us, ws, hl with
  | [], [u, w, z], _ => exact .of_eq (h kV doc pm an cdv ct u w z)
abbrev s_is_spec : Stmt := top 47
theorem sc_is_spec : FnScope ["value"] ["value"] (defScope s_is_spec) := ⟨rfl, rfl, rfl, by decide +kernel, rfl, by decide +kernel, by decide +kernel⟩
abbrev s_law_arranged : Stmt := top 55
theorem sc_law_arranged : FnScope ["parts", "found", "total", "part", "one"] ["parts"] (defScope s_law_arranged) := ⟨rfl, rfl, rfl, by decide +kernel, rfl, by decide +kernel, by decide +kernel⟩
abbrev s_law_best : Stmt := top 56
theorem sc_law_best : FnScope ["n", "rounds", "left", "used", "k"] ["n", "rounds", "left"] (defScope s_law_best) := ⟨rfl, rfl, rfl, by decide +kernel, rfl, by decide +kernel, by decide +kernel⟩
abbrev s_law_bests : Stmt := top 57
theorem sc_law_bests : FnScope ["most", "left", "r", "n"] ["most"] (defScope s_law_bests) := ⟨rfl, rfl, rfl, by decide +kernel, rfl, by decide +kernel, by decide +kernel⟩
abbrev s_law_lefts : Stmt := top 58
theorem sc_law_lefts : FnScope ["number", "bests", "found", "row", "left", "one"] ["number", "bests"] (defScope s_law_lefts) := ⟨rfl, rfl, rfl, by decide +kernel, rfl, by decide +kernel, by decide +kernel⟩
abbrev s_law_tables : Stmt := top 59
theorem sc_law_tables : FnScope ["row", "bests", "most", "n", "tables", "number", "ahead", "lefts", "here", "line", "a", "ways", "r"] ["row", "bests"] (defScope s_law_tables) := ⟨rfl, rfl, rfl, by decide +kernel, rfl, by decide +kernel, by decide +kernel⟩
abbrev s_law_due : Stmt := top 60
theorem sc_law_due : FnScope ["row", "bests", "found", "table", "line", "n", "enough", "a"] ["row", "bests"] (defScope s_law_due) := ⟨rfl, rfl, rfl, by decide +kernel, rfl, by decide +kernel, by decide +kernel⟩
abbrev s_law_equal : Stmt := top 61
theorem sc_law_equal : FnScope ["value", "due", "k"] ["value", "due"] (defScope s_law_equal) := ⟨rfl, rfl, rfl, by decide +kernel, rfl, by decide +kernel, by decide +kernel⟩
abbrev s_law_row : Stmt := top 62
theorem sc_law_row : FnScope ["box", "many", "bests", "row", "turn", "way", "n", "r", "number"] ["box", "many", "bests"] (defScope s_law_row) := ⟨rfl, rfl, rfl, by decide +kernel, rfl, by decide +kernel, by decide +kernel⟩
abbrev s_law_truths : Stmt := top 63
theorem sc_law_truths : FnScope ["due", "found", "i", "n"] ["due"] (defScope s_law_truths) := ⟨rfl, rfl, rfl, by decide +kernel, rfl, by decide +kernel, by decide +kernel⟩
abbrev s_law_near : Stmt := top 64
theorem sc_law_near : FnScope ["box", "due", "i", "other", "n", "j", "item", "number", "lines", "turned", "exchanged", "found", "one", "line"] ["box", "due"] (defScope s_law_near) := ⟨rfl, rfl, rfl, by decide +kernel, rfl, by decide +kernel, by decide +kernel⟩
abbrev s_law_told : Stmt := top 65
theorem sc_law_told : FnScope ["row", "most", "named", "passed", "told"] ["row", "most", "named"] (defScope s_law_told) := ⟨rfl, rfl, rfl, by decide +kernel, rfl, by decide +kernel, by decide +kernel⟩
abbrev s_law_stayed : Stmt := top 66
theorem sc_law_stayed : FnScope ["now", "was", "k"] ["now", "was"] (defScope s_law_stayed) := ⟨rfl, rfl, rfl, by decide +kernel, rfl, by decide +kernel, by decide +kernel⟩
abbrev s_law_copy : Stmt := top 67
theorem sc_law_copy : FnScope ["value", "line"] ["value"] (defScope s_law_copy) := ⟨rfl, rfl, rfl, by decide +kernel, rfl, by decide +kernel, by decide +kernel⟩
abbrev s_law_held : Stmt := top 68
theorem sc_law_held : FnScope ["row", "most", "value", "named", "passed", "told", "held"] ["row", "most", "value", "named"] (defScope s_law_held) := ⟨rfl, rfl, rfl, by decide +kernel, rfl, by decide +kernel, by decide +kernel⟩
abbrev s_law_told_right : Stmt := top 69
theorem sc_law_told_right : FnScope ["row", "most", "due", "named", "again", "told", "line"] ["row", "most", "due", "named", "again"] (defScope s_law_told_right) := ⟨rfl, rfl, rfl, by decide +kernel, rfl, by decide +kernel, by decide +kernel⟩
abbrev s_law : Stmt := top 70
theorem sc_law : FnScope ["script", "k", "box", "great", "spoil", "size", "named", "most", "many", "bests", "row", "due", "asked", "other", "at", "value", "turn"] ["script"] (defScope s_law) := ⟨rfl, rfl, rfl, by decide +kernel, rfl, by decide +kernel, by decide +kernel⟩
abbrev s_Line_init : Stmt := inClass (top 48) 0
theorem sc_Line_init : FnScope ["self", "spec"] ["self", "spec"] (defScope s_Line_init) := ⟨rfl, rfl, rfl, by decide +kernel, rfl, by decide +kernel, by decide +kernel⟩
structure TK (K : PySem.W.Frag) (mg : Str → Option Value) extends TA2 K mg where
  is_spec : DefAt K mg "is_spec" s_is_spec ["value"]
  law_arranged : DefAt K mg "_law_arranged" s_law_arranged ["parts"]
  law_best : DefAt K mg "_law_best" s_law_best ["n", "rounds", "left"]
  law_bests : DefAt K mg "_law_bests" s_law_bests ["most"]
  law_lefts : DefAt K mg "_law_lefts" s_law_lefts ["number", "bests"]
  law_tables : DefAt K mg "_law_tables" s_law_tables ["row", "bests"]
  law_due : DefAt K mg "_law_due" s_law_due ["row", "bests"]
  law_equal : DefAt K mg "_law_equal" s_law_equal ["value", "due"]
  law_row : DefAt K mg "_law_row" s_law_row ["box", "many", "bests"]
  law_truths : DefAt K mg "_law_truths" s_law_truths ["due"]
  law_near : DefAt K mg "_law_near" s_law_near ["box", "due"]
  law_told : DefAt K mg "_law_told" s_law_told ["row", "most", "named"]
  law_stayed : DefAt K mg "_law_stayed" s_law_stayed ["now", "was"]
  law_copy : DefAt K mg "_law_copy" s_law_copy ["value"]
  law_held : DefAt K mg "_law_held" s_law_held ["row", "most", "value", "named"]
  law_told_right : DefAt K mg "_law_told_right" s_law_told_right ["row", "most", "due", "named", "again"]
  law : DefAt K mg "law" s_law ["script"]
  kb_stairs_most_row : KBinds K stairs.fd ["row", "most"] ["most", "row"] kw21 kw21
  kb_stairs_hold_value_most_row : KBinds K stairs_hold.fd ["row", "most", "value"] ["value", "most", "row"] kw321 kw321
  C : Addr
  gL : mg "Line" = some (.ref C)
  cl : Cls K C
  m_init : MethAt K C "__init__" "Line.__init__" s_Line_init ["self", "spec"]
  mkc : Mk K C m_init.a
  n_spec : NoAttr K C "spec"
  n_sent : NoAttr K C "_sent_by"
  n_came : NoAttr K C "_came_to"
  t_MOST_LETTERS : Tok
  c_MOST_LETTERS : mg "MOST_LETTERS" = some (.int 8 t_MOST_LETTERS)
  t_MOST_WIRES : Tok
  c_MOST_WIRES : mg "MOST_WIRES" = some (.int 10 t_MOST_WIRES)
  z_dict : mg "dict" = none
  ca : ClsAt K C
structure LnAt (mg : Str → Option Value) where
  C : Addr
  gC : mg "Line" = some (.ref C)
def TK.Line {K : PySem.W.Frag} {mg : Str → Option Value} (T : TK K mg) : LnAt mg := ⟨T.C, T.gL⟩
end
end L2.U


set_option Elab.async false
set_option linter.all false
set_option maxRecDepth 100000
set_option maxHeartbeats 4000000
namespace L2.U
open PySem PySem.Spec PyProof.Rows Evl


section
variable {P : Program} {w : World} {K : PySem.W.Frag} {mg : Str → Option Value} {base : Heap}
theorem no_way {p : Prop} {b : Bool} (h : b = true) (g : b = false) : p := by rw [h] at g; cases g
/-! ### helpers -/
def SqI (H : Hp) (a : Addr) (ns : List Int) : Prop := H a = some (.lst (ns.map V.int)) ∨ H a = some (.tup (ns.map V.int))
theorem SqI.ex {H H' : Hp} {a : Addr} {ns : List Int} (h : SqI H a ns) (e : Ex H H') : SqI H' a ns := h.imp (e _ _) (e _ _)
theorem SqI.sq {H : Hp} {a : Addr} {ns : List Int} (h : SqI H a ns) : SqL K H a (ns.map V.int) ∨ SqT K H a (ns.map V.int) := h.imp SqL.of SqT.of
def SeqD (d : PyData) (ns : List Int) : Prop := d = .list (ns.map PyData.int) ∨ d = .tuple (ns.map PyData.int)
theorem SqI.rd {H : Hp} {a : Addr} {ns : List Int} {n : Nat} (h : SqI H a ns) (l : ns.length ≤ 900) : ∃ d, SeqD d ns ∧ Rd K (fun _ => True) H (n + 1) (.ref a) d := by
  have r := rdl_ints (K := K) (ok := fun _ => True) (H := H) (n := n) ns
  rcases h with h | h
  · exact ⟨_, .inl rfl, .lst h trivial r.1 (by rw [List.length_map]; omega) r.2⟩
  · exact ⟨_, .inr rfl, .tup (SqT.of h) trivial r.1 (by rw [List.length_map]; omega) r.2⟩
def RowOk (ns : List Int) : Prop := ns.length ≤ 16 ∧ ∀ k ∈ ns, 1 ≤ k ∧ k ≤ 100000000000000000000000000000000000000000000000000
theorem row_ok {d : PyData} {ns : List Int} (h : SeqD d ns) (k : RowOk ns) : rowD d = true := by
  have al : (ns.map PyData.int).all (betwD 1 100000000000000000000000000000000000000000000000000) = true := List.all_eq_true.mpr fun e he => by
    obtain ⟨i, hi, rfl⟩ := List.mem_map.mp he
    exact decide_eq_true (k.2 i hi)
  have hl : decide ((ns.map PyData.int).length ≤ 16) = true := decide_eq_true (by rw [List.length_map]; exact k.1)
  rcases h with rfl | rfl
  · show (true && decide ((ns.map PyData.int).length ≤ 16) && (ns.map PyData.int).all _) = true
    rw [hl, al]; rfl
  · show (true && decide ((ns.map PyData.int).length ≤ 16) && (ns.map PyData.int).all _) = true
    rw [hl, al]; rfl
theorem toldK_len (m : Nat) : (toldK m).length = m + 1 := by unfold toldK; rw [List.length_map, List.length_range]
theorem toldK_in (m : Nat) : ∀ t ∈ toldK m, t.length ≤ (toldK m).length := by
  intro t ht
  rw [toldK_len]
  unfold toldK at ht
  obtain ⟨k, hk, rfl⟩ := List.mem_map.mp ht
  rw [List.length_map, List.length_range]
  have := List.mem_range.mp hk
  omega
theorem n16_ok {m : Nat} (h : m ≤ 16) : betwD 0 16 (.int (m : Int)) = true := decide_eq_true ⟨by omega, by omega⟩
/-- the stairs of a row up to most -/
def stairsM (m : Nat) (ns : List Int) : List (List (Option Int)) := stairsF (toldK m) (zerosO (m + 1)) ns
theorem stairsM_len (m : Nat) (ns : List Int) : (stairsM m ns).length = ns.length + 1 := stairsF_len ns
def spStairs (K : PySem.W.Frag) : Sp := fun vs H Q _ => ∃ (a : Addr) (m : Nat) (ns : List Int), vs = [.ref a, .int (m : Int)] ∧ SqI H a ns ∧ RowOk ns ∧ m ≤ 16 ∧
  ∀ p (ts : List Addr) H', Ex H H' → H p = none → H' p = some (.lst (ts.map V.ref)) → StrAt H' ts (stairsM m ns) → ts.Nodup → (∀ t ∈ ts, H t = none ∧ t ≠ p) → Q (.ref p) H'
theorem ok_stairs (T : TK K mg) : FnOk P w K mg base (L2.CX P w) 9 T.stairs.a T.stairs.fd ["row", "most"] (spStairs K) := by
  refine T.stairs.F.okX sc_stairs (fun vs H Q E h => ?_) (fun cdv A outer s H vs Q E hr h => ?_)
  · obtain ⟨a, m, ns, rfl, _⟩ := h; rfl
  obtain ⟨a, m, ns, rfl, ha, hk, hm, q⟩ := h
  refine ⟨_, (pss_cons (ps_expr (by exact (pe_callS (ok_check_stairs T.toTA2) (hr.mono (by decide)) rfl T.check_stairs.m T.check_stairs.F.kp T.check_stairs.b (fun σ => passAt (takes_of rfl rfl rfl rfl) σ) (pa_cons (pv 0) (pa_cons (pv 1) pa_nil)))))
    (pss_one (ps_ret (pe_call (ok_stairs_by T.toTA2) (hr.mono (by decide)) rfl T.stairs_by.m T.stairs_by.F.kp T.stairs_by.b .nil pass0 (pa_cons (pv 0) (pa_cons (pe_call (ok_told_by_kinds T.toTA2) (hr.mono (by decide)) rfl T.told_by_kinds.m T.told_by_kinds.F.kp T.told_by_kinds.b .nil pass0 (pa_cons (pv 1) pa_nil)) pa_nil)))))), ?_⟩
  obtain ⟨d, sd, rd⟩ := ha.rd (K := K) (n := 0) (by have := hk.1; omega)
  refine ⟨_, rfl, _, rfl, _, _, d, _, 1, _, rfl, rd, .int _, fun _ _ H1 e1 => ?_, fun c => no_way (row_ok sd hk) c, fun _ c => no_way (n16_ok hm) c⟩
  refine ⟨_, rfl, _, rfl, m, rfl, by omega, fun p H2 e2 r2 => ?_⟩
  have e12 := e1.trans e2
  refine ⟨ns, .ref p, toldK m, 3, _, a, rfl, (ha.ex e12).sq, hk.1, r2, by rw [toldK_len]; omega, toldK_in m, fun f us H3 e3 hf hp hs nd fr => ?_⟩
  rw [toldK_len] at hs
  exact q f us H3 (e12.trans e3) (fresh_back e12 hf) hp hs nd fun t ht => ⟨fresh_back e12 (fr t ht).1, (fr t ht).2⟩
theorem okc_stairs (T : TK K mg) : FnOk P w K mg base CX0 9 T.stairs.a T.stairs.fd ["row", "most"] (spStairs K) := fn_calm (ok_stairs T) fun _ _ _ _ h => h
/-! ### lists, lines of stairs -/
def spIsListR (K : PySem.W.Frag) (C : Addr) : Sp := fun vs H Q _ => ∃ x d n ok, vs = [x] ∧ Ro K C ok H n x d ∧ ∀ H', Ex H H' → Q (.bl (isSeq d)) H'
theorem isSeq_is (d : PyData) : isSeq d = (isD "list" d || isD "tuple" d) := by cases d <;> rfl
theorem okr_is_list {C : Addr} (c : ClsAt K C) (T : TA1 K mg) : FnOk P w K mg base CX0 1 T.is_list.a T.is_list.fd ["value"] (spIsListR K C) := by
  refine T.is_list.F.ok sc_is_list (fun vs H Q E h => ?_) (fun cdv A outer s H vs Q E hr h => ?_)
  · obtain ⟨x, d, n, ok, rfl, _⟩ := h; rfl
  obtain ⟨x, d, n, ok, rfl, h, q⟩ := h
  refine ⟨_, (pss_one (ps_ret (pe_callB (kisiT K) (by rfl) T.z_isinstance (by decide +kernel) (pa_cons (pv 0) (pa_cons (pe_tup (pa_cons (pe_bltn (v := .ty "list") rfl T.z_list (by decide +kernel) rfl) (pa_cons (pe_bltn (v := .ty "tuple") rfl T.z_tuple (by decide +kernel) rfl) pa_nil))) pa_nil))))), ?_⟩
  refine ⟨_, rfl, (by show 2 ≤ sizeLine; decide), fun p hp => ?_⟩
  have q1 := q _ (Ex.new (o := .tup [.ty "list", .ty "tuple"]) hp)
  obtain ⟨t, ty, kl, kt, _, _⟩ := (h.ex (Ex.new (o := .tup [.ty "list", .ty "tuple"]) hp)).isi c
  refine ⟨_, p, [.ty "list", .ty "tuple"], t, [.type "list", .type "tuple"], isSeq d, rfl, upd_same, .cons (.ty _) (.cons (.ty _) .nil), ty, ?_, q1⟩
  unfold PySem.W.kitAny PySem.W.kitAny PySem.W.kitAny
  rw [kl, kt, isSeq_is]
  cases isD "list" d <;> cases isD "tuple" d <;> rfl
def intB : PyData → Bool
  | .int _ => true
  | _ => false
def spIsIntR (K : PySem.W.Frag) (C : Addr) : Sp := fun vs H Q _ => ∃ x d n ok, vs = [x] ∧ Ro K C ok H n x d ∧ Q (.bl (intB d)) H
theorem okr_is_integer {C : Addr} (c : ClsAt K C) (T : TA1 K mg) : FnOk P w K mg base CX0 1 T.is_integer.a T.is_integer.fd ["value"] (spIsIntR K C) := by
  refine T.is_integer.F.ok sc_is_integer (fun vs H Q E h => ?_) (fun cdv A outer s H vs Q E hr h => ?_)
  · obtain ⟨x, d, n, ok, rfl, _⟩ := h; rfl
  obtain ⟨x, d, n, ok, rfl, h, q⟩ := h
  refine ⟨_, (pss_one (ps_ret (pe_and (pe_callB (kisi K) (by rfl) T.z_isinstance (by decide +kernel) (pa_cons (pv 0) (pa_cons (pe_bltn (v := .ty "int") rfl T.z_int (by decide +kernel) rfl) pa_nil))) (pe_one (pe_not (pe_callB (kisi K) (by rfl) T.z_isinstance (by decide +kernel) (pa_cons (pv 0) (pa_cons (pe_bltn (v := .ty "bool") rfl T.z_bool (by decide +kernel) rfl) pa_nil)))))))), ?_⟩
  obtain ⟨t, ty, _, _, ki, kb⟩ := h.isi c
  have e : intB d = (isD "int" d && !isD "bool" d) := by cases d <;> rfl
  rw [e] at q
  refine ⟨_, rfl, _, _, _, _, _, rfl, .ty "int", ty, ki, _, rfl, ?_⟩
  cases hi : isD "int" d with
  | false => rw [hi] at q; exact iteF q
  | true => rw [hi] at q; exact iteT ⟨_, rfl, _, _, _, _, _, rfl, .ty "bool", ty, kb, _, rfl, q⟩
theorem ev_all {te : TE} {σ : L2.St} {H : Hp} {bs : List Bool} (h : EvL te σ H (bs.map V.bl)) : Ev (tCB (rAll K) (tCons te tNil)) σ H (.bl (bs.all id)) := fun H1 e Q q =>
  h H1 e _ fun p H2 _ e2 hp => ⟨p, bs, rfl, SqL.of hp, q H2 e2⟩
theorem el_lcS {σ : L2.St} {H : Hp} {a : Addr} {xs : List V} {tl te : TE} {t : TT} {j : Nat} {vs : List Nat} (f : Nat → Bool) (v : Nat → V) (h : Ev tl σ H (.ref a)) (hx : SqL K H a xs ∨ SqT K H a xs) (hz : xs.length ≤ 40000)
    (hw : ∀ x, wipe ((wipe σ vs).set j (some x)) vs = wipe σ vs) (ht : ∀ (i : Nat) (x : V) H1, Ex H H1 → xs[i]? = some x → EvT t ((wipe σ vs).set j (some x)) H1 (f i))
    (he : ∀ (i : Nat) (x : V) H1, Ex H H1 → xs[i]? = some x → f i = true → Ev te ((wipe σ vs).set j (some x)) H1 (v i)) : EvL (tLc (iSeq K tl) (gName j) t te vs) σ H (given xs.length f v) := fun H0 e Q q =>
  hx.elim (fun hx => .inl (el_lcL f v h hx hz hw ht he H0 e Q q)) (fun hx => .inr (el_lcT f v h hx hz hw ht he H0 e Q q))
theorem given_D {n : Nat} {l : List PyData} {p : PyData → Bool} (h : n = l.length) : given n (fun _ => true) (fun i => V.bl (p (l.getD i .none))) = (l.map p).map V.bl := by
  subst h
  rw [given_all]
  apply List.ext_getElem?
  intro i
  rw [List.getElem?_map, List.getElem?_map, List.getElem?_map]
  by_cases c : i < l.length
  · rw [List.getElem?_range c, List.getElem?_eq_getElem c]
    simp [List.getD_eq_getElem?_getD, List.getElem?_eq_getElem c]
  · rw [List.getElem?_eq_none (by rw [List.length_range]; omega), List.getElem?_eq_none (show l.length ≤ i by omega)]
    rfl
theorem getD_at {l : List PyData} {i : Nat} {e : PyData} (h : l[i]? = some e) : l.getD i .none = e := by rw [List.getD_eq_getElem?_getD, h]; rfl
/-- what all parts of a list or a tuple are -/
theorem ev_allP {C : Addr} {ok : Addr → Prop} {σ : L2.St} {H : Hp} {a : Addr} {xs : List V} {ds : List PyData} {n j k : Nat} {vs : List Nat} {te : TE} (p : PyData → Bool) (hk : σ[k]? = some (some (.ref a))) (hx : SqL K H a xs ∨ SqT K H a xs) (hl : xs.length = ds.length) (hz : xs.length ≤ 900)
    (all : ∀ (i : Nat) (x : V) (e : PyData), xs[i]? = some x → ds[i]? = some e → Ro K C ok H n x e) (hw : ∀ x, wipe ((wipe σ vs).set j (some x)) vs = wipe σ vs)
    (he : ∀ (x : V) (e : PyData) H1, Ex H H1 → Ro K C ok H1 n x e → Ev te ((wipe σ vs).set j (some x)) H1 (.bl (p e))) : Ev (tCB (rAll K) (tCons (tLc (iSeq K (tVar k)) (gName j) tYes te vs) tNil)) σ H (.bl (ds.all p)) := by
  have := ev_all (K := K) (te := tLc (iSeq K (tVar k)) (gName j) tYes te vs) (σ := σ) (H := H) (bs := ds.map p) (by
    rw [← given_D hl]
    refine el_lcS _ _ (ev_var hk) hx (by omega) hw (fun i x H1 _ _ H2 _ Q q => q H2 (Ex.refl _)) (fun i x H1 e1 hx _ => ?_)
    have hi := (List.getElem?_eq_some_iff.mp hx).1
    have hd : ds[i]? = some (ds[i]'(by omega)) := List.getElem?_eq_getElem _
    have := he x _ H1 e1 ((all i x _ hx hd).ex e1)
    rw [← getD_at hd] at this
    exact this)
  rw [List.all_map] at this
  exact this
def optB (e : PyData) : Bool := (optD e).isSome
theorem stairD_is (d : PyData) : stairD d = (isSeq d && (itemsD d).all optB) := rfl
def spIsStair (K : PySem.W.Frag) (C : Addr) : Sp := fun vs H Q _ => ∃ x d n ok, vs = [x] ∧ Ro K C ok H n x d ∧ ∀ H', Ex H H' → Q (.bl (stairD d)) H'
theorem ev_opt {σ : L2.St} {H : Hp} {x : V} {d : PyData} {n k : Nat} {C : Addr} {ok : Addr → Prop} {E : XK} (hk : σ[k]? = some (some x)) (h : Ro K C ok H n x d) :
    Ev (tOrV (tOp (fun x y H Q => y = V.non ∧ Q (V.bl (decide (x = V.non))) H) (tVar k) (tC V.non)) (tCall (spIsIntR K C) [] E (tCons (tVar k) tNil))) σ H (.bl (optB d)) := by
  have e : optB d = (decide (x = V.non) || intB d) := by
    cases h <;> first | rfl | skip
  rw [e]
  exact ev_orV (fun H1 e1 Q q => ⟨_, hk, rfl, q H1 (Ex.refl _)⟩) fun _ H1 e1 Q q => ⟨_, hk, _, d, n, ok, rfl, h.ex e1, q H1 (Ex.refl _)⟩
theorem ok_is_stair (T : TK K mg) : FnOk P w K mg base CX0 2 T.is_stair.a T.is_stair.fd ["value"] (spIsStair K T.C) := by
  refine T.is_stair.F.ok sc_is_stair (fun vs H Q E h => ?_) (fun cdv A outer s H vs Q E hr h => ?_)
  · obtain ⟨x, d, n, ok, rfl, _⟩ := h; rfl
  obtain ⟨x, d, n, ok, rfl, h, q⟩ := h
  refine ⟨_, (pss_one (ps_ret (pe_and (pe_call (okr_is_list T.ca T.toTA1) (hr.mono (by decide)) rfl T.is_list.m T.is_list.F.kp T.is_list.b .nil pass0 (pa_cons (pv 0) pa_nil)) (pe_one (pe_callB (kall K rfl) (by rfl) T.z_all (by decide +kernel) (pa_cons (pe_lc (own := [("least", 1)]) (g := gName 1) (by rfl) sc_is_stair.nd (kpis K (pv 0)) (blkOk_by (own := [("least", 1)]) (N := ["value", "least"]) (sc := defScope s_is_stair) (by decide +kernel)) (fun _ _ _ _ _ => (pg_name (i := 1) sc_is_stair.nd rfl (Or.inl rfl))) (fun _ _ _ _ _ => pts_nil) (fun _ _ _ _ _ => (pe_or (pe_cmpR op_isN (pv 1) pe_non (nomark _)) (pe_one (pe_call (okr_is_integer T.ca T.toTA1) (hr.mono (by decide)) rfl T.is_integer.m T.is_integer.F.kp T.is_integer.b .nil pass0 (pa_cons (pv 1) pa_nil)))))) pa_nil)))))), ?_⟩
  have ev : Ev (tAndV (tCall (spIsListR K T.C) [] E0 (tCons (tVar 0) tNil)) (tCB (rAll K) (tCons (tLc (iSeq K (tVar 0)) (gName 1) tYes (tOrV (tOp (fun x y H Q => y = V.non ∧ Q (V.bl (decide (x = V.non))) H) (tVar 1) (tC V.non)) (tCall (spIsIntR K T.C) [] E0 (tCons (tVar 1) tNil))) [1]) tNil))) (start ["value", "least"] [x]) H (.bl (stairD d)) := by
    rw [stairD_is]
    refine ev_andV (fun H1 e1 Q q => ⟨_, rfl, x, d, n, ok, rfl, h.ex e1, fun H' e => q H' e⟩) fun sq => ?_
    obtain ⟨a, xs, rfl, hs, hl, hz, all⟩ := h.seq sq
    exact ev_allP (C := T.C) (ok := ok) (n := n - 1) optB rfl (hs.imp (fun z => z.1) (fun z => z.1)) hl hz all (fun x => rfl) fun x e H1 e1 r => ev_opt rfl r
  exact ev H (Ex.refl _) _ fun H1 e1 => q H1 e1
end
end L2.U


set_option Elab.async false
set_option linter.all false
set_option maxRecDepth 100000
set_option maxHeartbeats 4000000
namespace L2.U
open PySem PySem.Spec PyProof.Rows Evl


section
variable {P : Program} {w : World} {K : PySem.W.Frag} {mg : Str → Option Value} {base : Heap}
theorem tnext {D : Ends} {σ : L2.St} {H : Hp} (h : D.nx σ H) : tNext D σ H := h
theorem tret_op {r : R2} {ta tb : TE} {D : Ends} {σ : L2.St} {H : Hp} (h : ta σ H fun x H1 => tb σ H1 fun y H2 => r x y H2 D.rt) : tRet (tOp r ta tb) D σ H := h
/-- a comprehension over a list or a tuple that makes data -/
theorem lc_rdI {σ : L2.St} {H : Hp} {a : Addr} {xs : List V} {te : TE} {j k m : Nat} {vs : List Nat} {d : Nat → PyData} (hk : σ[k]? = some (some (.ref a))) (hx : SqL K H a xs ∨ SqT K H a xs) (hz : xs.length ≤ 900) (hw : ∀ x, wipe ((wipe σ vs).set j (some x)) vs = wipe σ vs)
    (he : ∀ (i : Nat) (x : V) H1, Ex H H1 → xs[i]? = some x → ∀ Q : VK, (∀ y H2, Ex H1 H2 → Rd K (fun a => H1 a = none) H2 m y (d i) → Q y H2) → te ((wipe σ vs).set j (some x)) H1 Q)
    {Q : VK} (q : ∀ p H', Ex H H' → Rd K (fun a => H a = none) H' (m + 1) (.ref p) (.list ((List.range xs.length).map d)) → Q (.ref p) H') : tLc (iSeq K (tVar k)) (gName j) tYes te vs σ H Q := by
  have fin : ∀ D : Addr, H D = none → ∀ H', (Ex H H' ∧ ∃ ys, H' D = some (.lst ys) ∧ ys.length = xs.length ∧ RdL K (fun a => H a = none ∧ a ≠ D) H' m ys ((List.range xs.length).map d)) → Q (.ref D) H' := by
    rintro D hD H' ⟨p1, ys, p2, p3, p4⟩
    have r := p4.of (ok' := fun a => H a = none) (fun a ha => ha.1)
    exact q D H' p1 (.lst p2 hD r.1 (by omega) r.2)
  have turn : ∀ D : Addr, H D = none → ∀ i x H', xs[i]? = some x → (Ex H H' ∧ ∃ ys, H' D = some (.lst ys) ∧ ys.length = i ∧ RdL K (fun a => H a = none ∧ a ≠ D) H' m ys ((List.range i).map d)) →
      tYes ((wipe σ vs).set j (some x)) H' fun b H3 => if b = true then te ((wipe σ vs).set j (some x)) H3 fun y H4 => ∃ acc, H4 D = some (.lst acc) ∧ acc.length < sizeLine ∧ (Ex H (upd H4 D (.lst (acc ++ [y]))) ∧ ∃ ys, (upd H4 D (.lst (acc ++ [y]))) D = some (.lst ys) ∧ ys.length = i + 1 ∧ RdL K (fun a => H a = none ∧ a ≠ D) (upd H4 D (.lst (acc ++ [y]))) m ys ((List.range (i + 1)).map d)) else (Ex H H3 ∧ ∃ ys, H3 D = some (.lst ys) ∧ ys.length = i + 1 ∧ RdL K (fun a => H a = none ∧ a ≠ D) H3 m ys ((List.range (i + 1)).map d)) := by
    rintro D hD i x H' hi ⟨p1, ys, p2, p3, p4⟩
    have hlt := (List.getElem?_eq_some_iff.mp hi).1
    refine tyes ?_
    refine he i x H' p1 hi _ fun y H2 e2 rx => ⟨ys, e2 _ _ p2, small1000 (by omega), (p1.trans e2).mut hD, ys ++ [y], upd_same, by rw [List.length_append, p3]; rfl, ?_⟩
    rw [List.range_succ, List.map_append]
    refine RdL.snoc ?_ ?_
    · have r1 := p4.ex e2
      exact r1.but (b := D) But.upd (fun a ha => ha.2)
    · have nD : ∀ a, H' a = none → H a = none ∧ a ≠ D := fun a ha => ⟨fresh_back p1 ha, fun z => by rw [z, p2] at ha; cases ha⟩
      exact (rx.of nD).but (b := D) But.upd (fun a ha => ha.2)
  rcases hx with hx | hx
  · exact .inl ⟨_, hk, a, rfl, ⟨xs, hx⟩, fun D hD => lc_list (xs := xs) (fun i H' => Ex H H' ∧ ∃ ys, H' D = some (.lst ys) ∧ ys.length = i ∧ RdL K (fun a => H a = none ∧ a ≠ D) H' m ys ((List.range i).map d)) ⟨Ex.new hD, [], upd_same, rfl, rfl, fun i x e hx _ => by cases hx⟩ (fun i H' _ p => ex_l p.1 hx) (fun i x H' hi p => ⟨hw x, turn D hD i x H' hi p⟩) (fun H' p => fin D hD H' p)⟩
  · exact .inr ⟨_, hk, a, rfl, ⟨xs, hx⟩, fun D hD => lc_tup (xs := xs) (fun i H' => Ex H H' ∧ ∃ ys, H' D = some (.lst ys) ∧ ys.length = i ∧ RdL K (fun a => H a = none ∧ a ≠ D) H' m ys ((List.range i).map d)) ⟨Ex.new hD, [], upd_same, rfl, rfl, fun i x e hx _ => by cases hx⟩ (fun i H' _ p => ex_t p.1 hx) (fun i x H' hi p => ⟨hw x, turn D hD i x H' hi p⟩) (fun H' p => fin D hD H' p)⟩
theorem rd_opt {ok : Addr → Prop} {H : Hp} {n : Nat} (o : Option Int) : Rd K ok H n (optV o) (optP o) := by
  cases o with
  | none => exact .non
  | some i => exact .int i
theorem rd_opts {ok : Addr → Prop} {H : Hp} {n : Nat} (s : List (Option Int)) : RdL K ok H n (s.map optV) (s.map optP) := by
  refine ⟨by rw [List.length_map, List.length_map], fun i x d hx hd => ?_⟩
  rw [List.getElem?_map, Option.map_eq_some_iff] at hx hd
  obtain ⟨o, ho, rfl⟩ := hx
  obtain ⟨o', ho', rfl⟩ := hd
  rw [ho] at ho'
  cases Option.some.inj ho'
  exact rd_opt o
theorem rd_line {ok : Addr → Prop} {H : Hp} {n : Nat} {t : Addr} {s : List (Option Int)} (h : H t = some (.lst (s.map optV))) (w : ok t) (l : s.length ≤ 900) : Rd K ok H (n + 1) (.ref t) (lineP s) := by
  have r := rd_opts (K := K) (ok := ok) (H := H) (n := n) s
  exact .lst h w r.1 (by rw [List.length_map]; exact l) r.2
/-- stairs that stand in a list, told as data -/
theorem rd_lines {ok : Addr → Prop} {H : Hp} {n : Nat} {p : Addr} {ts : List Addr} {S : List (List (Option Int))} (h : H p = some (.lst (ts.map V.ref))) (sa : StrAt H ts S) (w : ok p) (wt : ∀ t ∈ ts, ok t) (l : S.length ≤ 900) (ll : ∀ s ∈ S, s.length ≤ 900) : Rd K ok H (n + 2) (.ref p) (linesP S) := by
  refine .lst h w (by rw [List.length_map, List.length_map]; exact sa.1) (by rw [List.length_map, sa.1]; exact l) fun i x d hx hd => ?_
  rw [List.getElem?_map, Option.map_eq_some_iff] at hx hd
  obtain ⟨t, ht, rfl⟩ := hx
  obtain ⟨s, hs, rfl⟩ := hd
  exact rd_line (sa.2 i t s ht hs) (wt t (List.mem_of_getElem? ht)) (ll s (List.mem_of_getElem? hs))
theorem stairsF_in {T : List (List (List Int))} {zs : List (Option Int)} : ∀ (row : List Int), ∀ s ∈ stairsF T zs row, s.length = zs.length
  | [], s, h => by
    have : s = zs := List.mem_singleton.mp h
    rw [this]
  | x :: row, s, h => by
    rw [stairsF_cons] at h
    rcases List.mem_cons.mp h with rfl | h
    · rw [stairF_len, headS_len]
    · exact stairsF_in row s h
theorem stairsM_in {m : Nat} {ns : List Int} : ∀ s ∈ stairsM m ns, s.length = m + 1 := fun s h => (stairsF_in ns s h).trans List.length_replicate
theorem ro_opts {C : Addr} {ok : Addr → Prop} {H : Hp} {n : Nat} {xs : List V} {s : List (Option Int)} (hl : xs.length = s.length) (all : ∀ (i : Nat) (x : V) (e : PyData), xs[i]? = some x → (s.map optP)[i]? = some e → Ro K C ok H n x e) : xs = s.map optV := by
  apply List.ext_getElem?
  intro i
  by_cases hi : i < xs.length
  · have hs : s[i]? = some (s[i]'(by omega)) := List.getElem?_eq_getElem _
    have r := all i _ (optP (s[i]'(by omega))) (List.getElem?_eq_getElem hi) (by rw [List.getElem?_map, hs]; rfl)
    rw [List.getElem?_eq_getElem hi, List.getElem?_map, hs]
    show some xs[i] = some (optV (s[i]'(by omega)))
    congr 1
    generalize xs[i] = x at r ⊢
    cases ho : s[i]'(by omega) with
    | none => rw [ho] at r; cases r; rfl
    | some z => rw [ho] at r; cases r; rfl
  · rw [List.getElem?_eq_none (by omega), List.getElem?_eq_none (by rw [List.length_map]; omega)]
def spHold (K : PySem.W.Frag) (C : Addr) : Sp := fun vs H Q _ => ∃ (a : Addr) (m : Nat) (ns : List Int) (x : V) (d : PyData) (n : Nat) (ok : Addr → Prop), vs = [.ref a, .int (m : Int), x] ∧ SqI H a ns ∧ RowOk ns ∧ m ≤ 16 ∧ Ro K C ok H n x d ∧ n ≤ 60 ∧
  ∀ H', Ex H H' → Q (.bl (holdD (stairsM m ns) d)) H'
theorem ok_stairs_hold (T : TK K mg) : FnOk P w K mg base (L2.CX P w) 9 T.stairs_hold.a T.stairs_hold.fd ["row", "most", "value"] (spHold K T.C) := by
  refine T.stairs_hold.F.okX sc_stairs_hold (fun vs H Q E h => ?_) (fun cdv A outer s H vs Q E hr h => ?_)
  · obtain ⟨a, m, ns, x, d, n, ok, rfl, _⟩ := h; rfl
  obtain ⟨a, m, ns, x, d, n, ok, rfl, ha, hk, hm, hx, hn, q⟩ := h
  refine ⟨_, (pss_cons (ps_expr (by exact (pe_callS (ok_check_stairs T.toTA2) (hr.mono (by decide)) rfl T.check_stairs.m T.check_stairs.F.kp T.check_stairs.b (fun σ => passAt (takes_of rfl rfl rfl rfl) σ) (pa_cons (pv 0) (pa_cons (pv 1) pa_nil)))))
    (pss_cons (ps_if (PW.pt (pw_or (pt_not (pt_val (pe_call (okr_is_list T.ca T.toTA1) (hr.mono (by decide)) rfl T.is_list.m T.is_list.F.kp T.is_list.b .nil pass0 (pa_cons (pv 2) pa_nil)))) (pw_or1 (pt_not (pt_val (pe_callB (kall K rfl) (by rfl) T.z_all (by decide +kernel) (pa_cons (pe_lc (own := [("stair", 3)]) (g := gName 3) (by rfl) sc_stairs_hold.nd (kpis K (pv 2)) (blkOk_by (own := [("stair", 3)]) (N := ["row", "most", "value", "stair"]) (sc := defScope s_stairs_hold) (by decide +kernel)) (fun _ _ _ _ _ => (pg_name (i := 3) sc_stairs_hold.nd rfl (Or.inl rfl))) (fun _ _ _ _ _ => pts_nil) (fun _ _ _ _ _ => (pe_call (ok_is_stair T) (hr.mono (by decide)) rfl T.is_stair.m T.is_stair.F.kp T.is_stair.b .nil pass0 (pa_cons (pv 3) pa_nil)))) pa_nil))))))) (pss_one (ps_ret pe_bl)) pss_nil)
    (pss_one (ps_ret (pe_cmpR (keqD K hr.units) (pe_lc (own := [("stair", 3)]) (g := gName 3) (by rfl) sc_stairs_hold.nd (kpis K (pv 2)) (blkOk_by (own := [("stair", 3)]) (N := ["row", "most", "value", "stair"]) (sc := defScope s_stairs_hold) (by decide +kernel)) (fun _ _ _ _ _ => (pg_name (i := 3) sc_stairs_hold.nd rfl (Or.inl rfl))) (fun _ _ _ _ _ => pts_nil) (fun _ _ _ _ _ => (pe_callTy (klist K) (by rfl) T.z_list (by decide +kernel) (pa_cons (pv 3) pa_nil)))) (pe_call (ok_stairs_by T.toTA2) (hr.mono (by decide)) rfl T.stairs_by.m T.stairs_by.F.kp T.stairs_by.b .nil pass0 (pa_cons (pv 0) (pa_cons (pe_call (ok_told_by_kinds T.toTA2) (hr.mono (by decide)) rfl T.told_by_kinds.m T.told_by_kinds.F.kp T.told_by_kinds.b .nil pass0 (pa_cons (pv 1) pa_nil)) pa_nil))) (nomark _)))))), ?_⟩
  obtain ⟨dd, sd, rd⟩ := ha.rd (K := K) (n := 0) (by have := hk.1; omega)
  refine ⟨_, rfl, _, rfl, _, _, dd, _, 1, _, rfl, rd, .int _, fun _ _ H1 e1 => ?_, fun c => no_way (row_ok sd hk) c, fun _ c => no_way (n16_ok hm) c⟩
  have x1 := hx.ex e1
  have test : EvT (tOr (tNot (tB (tCall (spIsListR K T.C) [] E0 (tCons (tVar 2) tNil)))) (tNot (tB (tCB (rAll K) (tCons (tLc (iSeq K (tVar 2)) (gName 3) tYes (tCall (spIsStair K T.C) [] E0 (tCons (tVar 3) tNil)) [3]) tNil)))))
      (start ["row", "most", "value", "stair"] [.ref a, .int (m : Int), x]) H1 (!isSeq d || !(itemsD d).all stairD) := by
    refine et_or (et_not (et_B fun H2 e2 Q q => ⟨_, rfl, x, d, n, ok, rfl, x1.ex e2, fun H' e => q H' e⟩)) fun sq => et_not (et_B ?_)
    have sq : isSeq d = true := by cases h : isSeq d with
      | true => rfl
      | false => rw [h] at sq; cases sq
    obtain ⟨b, xs, rfl, hs, hl, hz, all⟩ := x1.seq sq
    exact ev_allP (C := T.C) (ok := ok) (n := n - 1) stairD rfl (hs.imp (fun z => z.1) (fun z => z.1)) hl hz all (fun x => rfl) fun x e H1 e1 r H2 e2 Q q => ⟨_, rfl, x, e, n - 1, ok, rfl, r.ex e2, fun H' ex => q H' ex⟩
  refine test H1 (Ex.refl _) _ fun H2 e2 => ?_
  have e12 := e1.trans e2
  cases c : (isSeq d && (itemsD d).all stairD) with
  | false =>
    have : (!isSeq d || !(itemsD d).all stairD) = true := by rw [← Bool.not_and, c]; rfl
    rw [this]
    refine iteT ?_
    have := q H2 e12
    rw [hold_not c] at this
    exact this
  | true =>
    have : (!isSeq d || !(itemsD d).all stairD) = false := by rw [← Bool.not_and, c]; rfl
    rw [this]
    refine iteF ?_
    rw [Bool.and_eq_true] at c
    obtain ⟨L, hL, aL⟩ := lines_of c.2
    obtain ⟨b, xs, rfl, hs, hl, hz, all⟩ := (hx.ex e12).seq c.1
    have hh := hold_is (S := stairsM m ns) c.1 hL aL
    have hlx : xs.length = L.length := by omega
    dsimp only [tNext]
    refine tret_op ?_
    dsimp only [List.map]
    refine lc_rdI (K := K) (σ := start ["row", "most", "value", "stair"] [.ref a, .int (m : Int), .ref b]) (m := 1) (j := 3) (k := 2) (vs := [3]) (d := fun i => lineP (L.getD i [])) rfl (hs.imp (fun z => z.1) (fun z => z.1)) hz (fun x => rfl) (fun i x H3 e3 hi Q q => ?_) (fun p H3 e3 r3 => ?_)
    · have hi1 := (List.getElem?_eq_some_iff.mp hi).1
      have hd : (itemsD d)[i]? = some ((itemsD d)[i]'(by omega)) := List.getElem?_eq_getElem _
      have hs' : L[i]? = some (L[i]'(by omega)) := List.getElem?_eq_getElem _
      have g := aL i _ _ hd hs'
      obtain ⟨t, ys, rfl, ht, htl, htz, hta⟩ := ((all i x _ hi hd).ex e3).seq g.1
      rw [g.2] at htl hta
      have eys : ys = (L[i]'(by omega)).map optV := ro_opts (by rw [htl, List.length_map]) hta
      refine ⟨_, rfl, t, ys, rfl, ht.imp (fun z => z.1) (fun z => z.1), fun l hl => q _ _ (Ex.new hl) ?_⟩
      have gd : L.getD i [] = L[i]'(by omega) := by rw [List.getD_eq_getElem?_getD, hs']; rfl
      rw [gd, eys]
      exact rd_line upd_same hl (by rw [← List.length_map (f := optP), ← htl]; omega)
    · have el : (PyData.list ((List.range xs.length).map fun i => lineP (L.getD i []))) = linesP L := by
        unfold linesP
        congr 1
        rw [hlx]
        apply List.ext_getElem?
        intro i
        rw [List.getElem?_map, List.getElem?_map]
        by_cases ci : i < L.length
        · rw [List.getElem?_range ci, List.getElem?_eq_getElem ci]
          simp [List.getD_eq_getElem?_getD, List.getElem?_eq_getElem ci]
        · rw [List.getElem?_eq_none (by rw [List.length_range]; omega), List.getElem?_eq_none (by omega)]
          rfl
      rw [el] at r3
      have e123 := e12.trans e3
      refine ⟨_, rfl, _, rfl, m, rfl, by omega, fun p2 H4 e4 r4 => ?_⟩
      refine ⟨ns, .ref p2, toldK m, 3, _, a, rfl, (ha.ex (e123.trans e4)).sq, hk.1, r4, by rw [toldK_len]; omega, toldK_in m, fun f us H5 e5 hf hp hs nd fr => ?_⟩
      rw [toldK_len] at hs
      have r5 : Rd K (fun _ => True) H5 2 (.ref f) (linesP (stairsM m ns)) := rd_lines hp hs trivial (fun _ _ => trivial) (by rw [stairsM_len]; have := hk.1; omega) (fun s hs => by rw [stairsM_in s hs]; omega)
      have r35 := r3.ex (e4.trans e5)
      refine ⟨_, _, r35.dp, r5.dp, r35.shaped (by omega), r5.shaped (by omega), ?_⟩
      have := q H5 (e123.trans (e4.trans e5))
      rw [hh] at this
      rw [eqv_lines]
      exact this
theorem okc_stairs_hold (T : TK K mg) : FnOk P w K mg base CX0 9 T.stairs_hold.a T.stairs_hold.fd ["row", "most", "value"] (spHold K T.C) := fn_calm (ok_stairs_hold T) fun _ _ _ _ h => h
end
end L2.U


set_option Elab.async false
set_option linter.all false
set_option maxRecDepth 100000
set_option maxHeartbeats 4000000
namespace L2.U
open PySem PySem.Spec PyProof.Rows Evl


section
variable {P : Program} {w : World} {K : PySem.W.Frag} {mg : Str → Option Value} {base : Heap}
def Cn (n k : Nat) : Int := PySem.W.mcComb (n : Int) (k : Int)
theorem cn_up : ∀ n : Fin 17, ∀ k : Fin 17, k.val ≤ n.val → Cn n.val k.val * ((n.val : Int) + 1) = Cn (n.val + 1) (k.val + 1) * ((k.val : Int) + 1) := by decide +kernel
theorem cn_zero : ∀ n : Fin 18, Cn n.val 0 = 1 := by decide +kernel
theorem sum_take {l : List Int} (h : ∀ z ∈ l, 0 ≤ z) : ∀ i, 0 ≤ (l.take i).sum ∧ (l.take i).sum ≤ l.sum := by
  induction l with
  | nil => intro i; simp
  | cons a r ih =>
    intro i
    have ha := h a (by simp)
    have ih := ih fun z hz => h z (List.mem_cons_of_mem _ hz)
    cases i with
    | zero => have := (ih r.length).1; rw [List.take_length] at this; simp only [List.take_zero, List.sum_nil, List.sum_cons]; omega
    | succ i => have := ih i; simp only [List.take_succ_cons, List.sum_cons]; omega
def spLArr (K : PySem.W.Frag) : Sp := fun vs H Q _ => ∃ (a : Addr) (l : List Int), vs = [.ref a] ∧ SqL K H a (l.map V.int) ∧ (∀ z ∈ l, 0 ≤ z) ∧ l.sum ≤ 16 ∧ ∀ H', Ex H H' → Q (.int (arrUp l).1) H'
theorem ok_law_arranged (T : TK K mg) : FnOk P w K mg base CX0 1 T.law_arranged.a T.law_arranged.fd ["parts"] (spLArr K) := by
  refine T.law_arranged.F.ok sc_law_arranged (fun vs H Q E h => ?_) (fun cdv A outer s H vs Q E hr h => ?_)
  · obtain ⟨a, l, rfl, _⟩ := h; rfl
  obtain ⟨a, l, rfl, ha, hp, hs, q⟩ := h
  refine ⟨_, (pss_cons (ps_asg (pe_tup (pa_cons pe_int (pa_cons pe_int pa_nil))) (pg_tup (by rfl) (pgs_cons (pg_name (i := 1) sc_law_arranged.nd rfl (Or.inl rfl)) (pgs_cons (pg_name (i := 2) sc_law_arranged.nd rfl (Or.inl rfl)) pgs_nil))))
    (pss_cons (ps_for PassesOwn.never rfl (kpil K (pv 0)) (pg_name (i := 3) sc_law_arranged.nd rfl (Or.inl rfl)) (pss_one (ps_for PassesOwn.never rfl (pi_range2 rfl T.z_range (pa_cons pe_int (pa_cons (pe_op op_add (pv 3) pe_int) pa_nil))) (pg_name (i := 4) sc_law_arranged.nd rfl (Or.inl rfl)) (pss_cons (ps_set (i := 2) sc_law_arranged.nd rfl (Or.inl rfl) (pe_op op_add (pv 2) pe_int))
    (pss_one (ps_set (i := 1) sc_law_arranged.nd rfl (Or.inl rfl) (pe_op op_fdiv (pe_op op_mul (pv 1) (pv 2)) (pv 4))))))))
    (pss_one (ps_ret (pv 1))))), ?_⟩
  refine ⟨by decide, fun t ht => ?_⟩
  have e0 := Ex.new (o := .tup [.int 1, .int 0]) ht
  refine ⟨t, _, rfl, SqT.of upd_same, rfl, _, _, rfl, _, _, rfl, rfl, ?_⟩
  refine ⟨_, rfl, a, rfl, ⟨_, ex_l e0 ha⟩, for_list (xs := l.map V.int) (fun i σ H' => Ex H H' ∧ ∃ v3 v4, σ = [some (.ref a), some (.int (arrUp (l.take i)).1), some (.int (arrUp (l.take i)).2), v3, v4]) ⟨e0, _, _, rfl⟩ (fun i σ H' _ p => ex_l p.1 ha) ?_ ?_⟩
  · rintro i x σ H' hx ⟨e, v3, v4, rfl⟩
    obtain ⟨z, hz, rfl⟩ := ints_get hx
    have hi := (List.getElem?_eq_some_iff.mp hz).1
    have z0 := hp z (List.mem_of_getElem? hz)
    have st := sum_take hp i
    have st1 := sum_take hp (i + 1)
    have e1 : (l.take (i + 1)).sum = (l.take i).sum + z := by
      rw [List.take_add_one, hz]
      simp
    rw [arrUp_more hz, arrUp_two]
    obtain ⟨tn, htn⟩ : ∃ tn : Nat, (l.take i).sum = (tn : Int) := ⟨(l.take i).sum.toNat, by omega⟩
    obtain ⟨zn, hzn⟩ : ∃ zn : Nat, z = (zn : Int) := ⟨z.toNat, by omega⟩
    subst hzn
    rw [htn]
    generalize (arrUp (l.take i)).1 = F
    refine ⟨_, rfl, _, _, rfl, rfl, 1, (zn : Int) + 1, rfl, ⟨by omega, by omega, by omega, by omega⟩, for_range (lo := 1) (n := ((zn : Int) + 1 - 1).toNat) (fun j σ H'' => H'' = H' ∧ ∃ v4, σ = [some (.ref a), some (.int (F * Cn (tn + j) j)), some (.int ((tn + j : Nat) : Int)), some (.int (zn : Int)), v4]) ⟨rfl, v4, ?_⟩ ?_ ?_⟩
    · rw [cn_zero ⟨tn + 0, by omega⟩, Int.mul_one]
      rfl
    · rintro j σ H'' hj ⟨rfl, v4', rfl⟩
      have up := cn_up ⟨tn + j, by omega⟩ ⟨j, by omega⟩ (by show j ≤ tn + j; omega)
      simp only at up
      have val : F * Cn (tn + j) j * (((tn + j : Nat) : Int) + 1) / (1 + (j : Int)) = F * Cn (tn + (j + 1)) (j + 1) := by
        rw [Int.mul_assoc, up, ← Int.mul_assoc, show (1 : Int) + (j : Int) = (j : Int) + 1 by omega, Int.mul_ediv_cancel _ (by omega)]
        rfl
      refine ⟨_, rfl, _, _, rfl, rfl, _, rfl, _, rfl, _, _, rfl, rfl, .inr ⟨by omega, by omega⟩, _, rfl, _, _, rfl, rfl, ⟨by omega, by omega⟩, rfl, some (.int (1 + (j : Int))), ?_⟩
      rw [← val]
      have : (((tn + (j + 1) : Nat)) : Int) = ((tn + j : Nat) : Int) + 1 := by omega
      rw [this]
      rfl
    · rintro σ H'' ⟨rfl, v4', rfl⟩
      have en : ((zn : Int) + 1 - 1).toNat = zn := by omega
      rw [en]
      refine ⟨e, some (.int (zn : Int)), v4', ?_⟩
      have : ((tn + zn : Nat) : Int) = (tn : Int) + (zn : Int) := by omega
      unfold Cn
      rw [this]
  · rintro σ H' ⟨e, v3, v4, rfl⟩
    have := q H' e
    rw [List.length_map, List.take_length]
    exact ⟨_, rfl, this⟩
end
end L2.U


set_option Elab.async false
set_option linter.all false
set_option maxRecDepth 100000
set_option maxHeartbeats 4000000
namespace L2.U
open PySem PySem.Spec PyProof.Rows Evl


section
variable {P : Program} {w : World} {K : PySem.W.Frag} {mg : Str → Option Value} {base : Heap}
section
variable {σ : L2.St} {H : Hp} {ta tb : TE} {xs ys : List V}
theorem el_catL (ha : EvL ta σ H xs) (hb : EvL tb σ H ys) (hz : xs.length + ys.length ≤ 100000) : EvL (tOp rCat ta tb) σ H (xs ++ ys) := fun H1 e Q q =>
  ha H1 e _ fun p H2 hp e2 h2 => hb H2 (e.trans e2) _ fun p' H3 hp' e3 h3 => ⟨p, p', xs, ys, rfl, rfl, e3 _ _ h2, h3, sz_of hz, fun l hl => q l _ (fresh_back (e2.trans e3) hl) ((e2.trans e3).trans (Ex.new hl)) upd_same⟩
end
theorem even_is {u r : Int} (hu : 0 ≤ u) (hr : 1 ≤ r) : (List.range r.toNat).map (fun k : Nat => u / r + (if decide ((k : Int) < u % r) = true then 1 else 0)) = evenOf u r := by
  have m0 := Int.emod_nonneg u (show r ≠ 0 by omega)
  have m1 := Int.emod_lt_of_pos u (show 0 < r by omega)
  have md : u - u / r * r = u % r := by have := Int.mul_ediv_add_emod u r; rw [Int.mul_comm] at this; omega
  unfold evenOf
  rw [md]
  apply List.ext_getElem?
  intro i
  rw [List.getElem?_map]
  by_cases hi : i < r.toNat
  · rw [List.getElem?_range hi]
    by_cases c : i < (u % r).toNat
    · rw [List.getElem?_append_left (by rw [List.length_replicate]; exact c), List.getElem?_replicate, if_pos c]
      show some (u / r + (if decide ((i : Int) < u % r) = true then 1 else 0)) = _
      rw [if_pos (decide_eq_true (by omega))]
    · rw [List.getElem?_append_right (by rw [List.length_replicate]; omega), List.getElem?_replicate, List.length_replicate, if_pos (by omega)]
      show some (u / r + (if decide ((i : Int) < u % r) = true then 1 else 0)) = _
      rw [if_neg (by rw [decide_eq_false (by omega)]; decide), Int.add_zero]
  · rw [List.getElem?_eq_none (by rw [List.length_range]; omega), List.getElem?_eq_none (by rw [List.length_append, List.length_replicate, List.length_replicate]; omega)]
    rfl
def spLBest : Sp := fun vs H Q _ => ∃ n r l : Int, vs = [.int n, .int r, .int l] ∧ n ≤ 16 ∧ 1 ≤ r ∧ r ≤ 20 ∧ 0 ≤ l ∧ ∀ H', Ex H H' → Q (.int (mostA n r l)) H'
theorem ok_law_best (T : TK K mg) : FnOk P w K mg base CX0 2 T.law_best.a T.law_best.fd ["n", "rounds", "left"] spLBest := by
  refine T.law_best.F.ok sc_law_best (fun vs H Q E h => ?_) (fun cdv A outer s H vs Q E hr h => ?_)
  · obtain ⟨n, r, l, rfl, _⟩ := h; rfl
  obtain ⟨n, r, l, rfl, hn, r1, r20, l0, q⟩ := h
  refine ⟨_, (pss_cons (ps_set (i := 3) sc_law_best.nd rfl (Or.inr rfl) (pe_op op_sub (pv 0) (pv 2)))
    (pss_cons (ps_if (PW.pt (pw_or (pt_cmpR op_lt (pv 1) pe_int (nomark _)) (pw_or1 (pt_cmpR op_lt (pv 3) (pv 1) (nomark _))))) (pss_one (ps_ret pe_int)) pss_nil)
    (pss_one (ps_ret (pe_call (ok_law_arranged T) (hr.mono (by decide)) rfl T.law_arranged.m T.law_arranged.F.kp T.law_arranged.b .nil pass0 (pa_cons (pe_op op_cat (pe_lc (own := [("k", 4)]) (g := gName 4) (by rfl) sc_law_best.nd (pi_range1 rfl T.z_range (pa_cons (pv 1) pa_nil)) (blkOk_by (own := [("k", 4)]) (N := ["n", "rounds", "left", "used", "k"]) (sc := defScope s_law_best) (by decide +kernel)) (fun _ _ _ _ _ => (pg_name (i := 4) sc_law_best.nd rfl (Or.inl rfl))) (fun _ _ _ _ _ => pts_nil) (fun _ _ _ _ _ => (pe_op op_add (pe_op op_fdiv (pv 3) (pv 1)) (pe_callTy call_int1 (by rfl) T.z_int (by decide +kernel) (pa_cons (pe_cmpR op_lt (pv 4) (pe_op op_mod (pe_callTy call_int1 (by rfl) T.z_int (by decide +kernel) (pa_cons (pv 3) pa_nil)) (pv 1)) (nomark _)) pa_nil))))) (pe_lst (pa_cons (pv 2) pa_nil))) pa_nil)))))), ?_⟩
  refine ⟨_, rfl, _, rfl, _, _, rfl, rfl, ?_⟩
  refine ⟨_, rfl, _, _, rfl, rfl, _, rfl, ?_⟩
  rw [decide_eq_false (show ¬ r < 1 by omega)]
  refine iteF ⟨_, rfl, _, rfl, _, _, rfl, rfl, _, rfl, ite2 (fun c => ?_) (fun c => ?_)⟩
  · have c' := of_decide_eq_true c
    have := q H (Ex.refl _)
    unfold mostA at this
    rw [if_pos c'] at this
    exact this
  · have c' : ¬ n - l < r := of_decide_eq_false (Bool.eq_false_iff.mpr c)
    have lst : EvL (tLc (iRng1 (tCons (tVar 1) tNil)) (gName 4) tYes (tOp (rI0 fun i j => .int (i + j)) (tOp (rI CDiv fun i j => .int (i / j)) (tVar 3) (tVar 1)) (tCB (fun xs H Q => (∃ i, xs = [V.int i] ∧ Q (V.int i) H) ∨ ∃ k, xs = [V.bl k] ∧ Q (V.int (if k = true then 1 else 0)) H) (tCons (tOp (rI0 fun i j => .bl (decide (i < j))) (tVar 4) (tOp (rI (fun _ j => 0 < j) fun i j => .int (i % j)) (tCB (fun xs H Q => (∃ i, xs = [V.int i] ∧ Q (V.int i) H) ∨ ∃ k, xs = [V.bl k] ∧ Q (V.int (if k = true then 1 else 0)) H) (tCons (tVar 3) tNil)) (tVar 1))) tNil))) [4])
        [some (.int n), some (.int r), some (.int l), some (.int (n - l)), none] H ((evenOf (n - l) r).map V.int) := by
      have := el_lcR1 (σ := [some (.int n), some (.int r), some (.int l), some (.int (n - l)), none]) (H := H) (ta := tCons (tVar 1) tNil) (t := tYes) (te := tOp (rI0 fun i j => .int (i + j)) (tOp (rI CDiv fun i j => .int (i / j)) (tVar 3) (tVar 1)) (tCB (fun xs H Q => (∃ i, xs = [V.int i] ∧ Q (V.int i) H) ∨ ∃ k, xs = [V.bl k] ∧ Q (V.int (if k = true then 1 else 0)) H) (tCons (tOp (rI0 fun i j => .bl (decide (i < j))) (tVar 4) (tOp (rI (fun _ j => 0 < j) fun i j => .int (i % j)) (tCB (fun xs H Q => (∃ i, xs = [V.int i] ∧ Q (V.int i) H) ∨ ∃ k, xs = [V.bl k] ∧ Q (V.int (if k = true then 1 else 0)) H) (tCons (tVar 3) tNil)) (tVar 1))) tNil))) (j := 4) (vs := [4]) (n := r) (fun _ => true) (fun k => .int ((n - l) / r + (if decide ((k : Int) < (n - l) % r) = true then 1 else 0))) (ea_cons (ev_var rfl) ea_nil) ⟨by omega, by omega⟩ (fun _ => rfl) (fun i H1 _ _ H2 _ Q k => k H2 (Ex.refl _))
        (fun k H1 e1 hk _ H2 e2 Q2 k2 => ⟨_, rfl, _, rfl, _, _, rfl, rfl, ⟨by omega, by omega⟩, _, rfl, _, rfl, .inl ⟨_, rfl, _, rfl, _, _, rfl, rfl, by omega, _, _, rfl, rfl, .inr ⟨_, rfl, _, _, rfl, rfl, k2 H2 (Ex.refl _)⟩⟩⟩)
      rw [given_all] at this
      have e : (List.range r.toNat).map (fun k : Nat => V.int ((n - l) / r + (if decide ((k : Int) < (n - l) % r) = true then 1 else 0))) = (evenOf (n - l) r).map V.int := by
        rw [← even_is (show 0 ≤ n - l by omega) r1, List.map_map]
        rfl
      rw [e] at this
      exact this
    have es := even_sum (show 0 ≤ n - l by omega) (show 1 ≤ r by omega)
    have both := el_catL lst (el_lst (σ := [some (.int n), some (.int r), some (.int l), some (.int (n - l)), none]) (ea_cons (ta := tVar 2) (ev_var rfl) ea_nil) (by show 1 ≤ 100000; decide)) (by rw [List.length_map, es.1]; show _ + 1 ≤ 100000; omega)
    refine both H (Ex.refl _) (fun v H2 => tNil [some (.int n), some (.int r), some (.int l), some (.int (n - l)), none] H2 fun xs H3 => spLArr K ((v :: xs) ++ []) H3 Q E0) fun p H1 hp e1 hx => ?_
    refine ⟨p, evenOf (n - l) r ++ [l], rfl, SqL.of (by rw [hx, List.map_append]; rfl), fun z hz => ?_, ?_, fun H2 e2 => ?_⟩
    · rcases List.mem_append.mp hz with h | h
      · exact es.2.2 z h
      · rw [List.mem_singleton] at h; omega
    · rw [List.sum_append, es.2.1, List.sum_singleton]; omega
    · have := q H2 (e1.trans e2)
      unfold mostA at this
      rw [if_neg c'] at this
      exact this
end
end L2.U


set_option Elab.async false
set_option linter.all false
set_option maxRecDepth 100000
set_option maxHeartbeats 4000000
namespace L2.U
open PySem PySem.Spec PyProof.Rows Evl
def topS (m : Nat) (ns : List Int) : List (Option Int) := headS (toldK m) (zerosO (m + 1)) ns
/-! ### what a row of numbers asks, and the stairs: pure mathematics -/
/-- a speaker of n kinds can tell the row, the other end having a; f n r l is what r + 1 rounds of n kinds tell that leave l -/
def Can (f : Nat → Nat → Nat → Int) : List Int → Nat → Nat → Prop
  | [], _, _ => True
  | x :: row, n, a => ∃ r l, r ≤ a ∧ l + r < n ∧ x ≤ f n r l ∧ Can f row (a - r) l
def Rises (f : Nat → Nat → Nat → Int) : Prop := ∀ n n' r l, n ≤ n' → n' ≤ 16 → l + r < n → f n r l ≤ f n' r l
theorem can_mono {f : Nat → Nat → Nat → Int} (hf : Rises f) : ∀ (row : List Int) (n n' a a' : Nat), n ≤ n' → n' ≤ 16 → a ≤ a' → a' ≤ 16 → Can f row n a → Can f row n' a'
  | [], _, _, _, _, _, _, _, _, _ => trivial
  | x :: row, n, n', a, a', h1, h2, h3, h4, ⟨r, l, c1, c2, c3, c4⟩ =>
    ⟨r, l, by omega, by omega, Int.le_trans c3 (hf n n' r l h1 h2 c2), can_mono hf row (a - r) (a' - r) l l (by omega) (by omega) (Nat.le_refl _) (by omega) c4⟩
/-- the greatest rest alone need be tried -/
theorem can_best {f : Nat → Nat → Nat → Int} (hf : Rises f) {x : Int} {row : List Int} {n a : Nat} (hn : n ≤ 16) (ha : a ≤ 16) :
    Can f (x :: row) n a ↔ ∃ r, r ≤ a ∧ r ≤ n ∧ ∃ L, L + r < n ∧ x ≤ f n r L ∧ (∀ l, l + r < n → x ≤ f n r l → l ≤ L) ∧ Can f row (a - r) L := by
  constructor
  · rintro ⟨r, l, c1, c2, c3, c4⟩
    have key : ∀ d : Nat, ∀ l, n - l = d → l + r < n → x ≤ f n r l → Can f row (a - r) l → ∃ L, L + r < n ∧ x ≤ f n r L ∧ (∀ l, l + r < n → x ≤ f n r l → l ≤ L) ∧ Can f row (a - r) L := by
      intro d
      induction d using Nat.strongRecOn with
      | _ d ih =>
        intro l hd h2 h3 h4
        by_cases c : ∀ l', l' + r < n → x ≤ f n r l' → l' ≤ l
        · exact ⟨l, h2, h3, c, h4⟩
        · have : ∃ l', l' + r < n ∧ x ≤ f n r l' ∧ l < l' := by
            apply Classical.byContradiction
            intro no
            apply c
            intro l' g1 g2
            apply Classical.byContradiction
            intro g3
            exact no ⟨l', g1, g2, by omega⟩
          obtain ⟨l', g1, g2, g3⟩ := this
          exact ih (n - l') (by omega) l' rfl g1 g2 (can_mono hf row _ _ l l' (Nat.le_refl _) (by omega) (by omega) (by omega) h4)
    obtain ⟨L, k1, k2, k3, k4⟩ := key (n - l) l rfl c2 c3 c4
    exact ⟨r, c1, by omega, L, k1, k2, k3, k4⟩
  · rintro ⟨r, c1, _, L, k1, k2, _, k4⟩
    exact ⟨r, L, c1, k1, k2, k4⟩
theorem fstO_some {α : Type} {p : α → Bool} : ∀ {l : List α} {k : Nat} {j : Int}, fstO p k l = some j → ∃ i x, j = ((k + i : Nat) : Int) ∧ l[i]? = some x ∧ p x = true ∧ ∀ i' x', i' < i → l[i']? = some x' → p x' = false
  | [], k, j, h => by cases h
  | y :: r, k, j, h => by
    unfold fstO at h
    by_cases c : p y = true
    · rw [if_pos c] at h
      exact ⟨0, y, (Option.some.inj h).symm, rfl, c, fun i' x' hi _ => absurd hi (Nat.not_lt_zero _)⟩
    · rw [if_neg c] at h
      obtain ⟨i, x, e, hx, hp, hq⟩ := fstO_some h
      refine ⟨i + 1, x, by rw [e]; congr 1; omega, hx, hp, fun i' x' hi hx' => ?_⟩
      cases i' with
      | zero => cases Option.some.inj hx'; exact Bool.eq_false_iff.mpr c
      | succ i' => exact hq i' x' (by omega) hx'
theorem fstO_none {α : Type} {p : α → Bool} : ∀ {l : List α} {k : Nat}, fstO p k l = none → ∀ (i : Nat) (x : α), l[i]? = some x → p x = false
  | [], k, _, i, x, hx => by cases hx
  | y :: r, k, h, i, x, hx => by
    unfold fstO at h
    by_cases c : p y = true
    · rw [if_pos c] at h; cases h
    · rw [if_neg c] at h
      cases i with
      | zero => cases Option.some.inj hx; exact Bool.eq_false_iff.mpr c
      | succ i => exact fstO_none h i x hx
/-- the table: for k kinds, for each rest, for each number of answers -/
def TabF (f : Nat → Nat → Nat → Int) (N : Nat) : List (List (List Int)) := (List.range (N + 1)).map fun k => (List.range k).map fun l => (List.range (k - l)).map fun r => f k r l
/-- a stair stands for a row: for each number of kinds the least kinds of the other end, or none -/
def Stands (f : Nat → Nat → Nat → Int) (N : Nat) (row : List Int) (os : List (Option Int)) : Prop :=
  os.length = N + 1 ∧ ∀ (k : Nat) (o : Option Int), os[k]? = some o → (∀ l, o = some l → 0 ≤ l ∧ l ≤ (N : Int)) ∧ ∀ a : Nat, a ≤ N → (Can f row k a ↔ ∃ l, o = some l ∧ l ≤ (a : Int))
theorem stands_nil {f : Nat → Nat → Nat → Int} {N : Nat} : Stands f N [] (List.replicate (N + 1) (some 0)) := by
  refine ⟨List.length_replicate, fun k o h => ?_⟩
  rw [List.getElem?_replicate] at h
  split at h
  · obtain rfl := Option.some.inj h
    exact ⟨fun l e => by cases e; omega, fun a ha => ⟨fun _ => ⟨0, rfl, by omega⟩, fun _ => trivial⟩⟩
  · cases h
theorem need_some {f : Nat → Nat → Nat → Int} {N : Nat} {row : List Int} {os : List (Option Int)} (h : Stands f N row os) {l : Nat} (hl : l ≤ N) {j : Int} (e : needF os (l : Int) = some j) : ∃ k : Nat, k ≤ N ∧ j = (k : Int) ∧ Can f row k l ∧ ∀ k', k' < k → ¬ Can f row k' l := by
  obtain ⟨i, o, hj, ho, hp, hq⟩ := fstO_some e
  have hi := (List.getElem?_eq_some_iff.mp ho).1
  rw [h.1] at hi
  refine ⟨i, by omega, by rw [hj]; congr 1; omega, ?_, fun k' hk' c => ?_⟩
  · refine ((h.2 i o ho).2 l hl).mpr ?_
    cases o with
    | none => cases hp
    | some z => exact ⟨z, rfl, of_decide_eq_true hp⟩
  · have hk2 : os[k']? = some (os[k']'(by rw [h.1]; omega)) := List.getElem?_eq_getElem _
    obtain ⟨z, ez, hz⟩ := ((h.2 k' _ hk2).2 l hl).mp c
    have := hq k' _ hk' hk2
    rw [ez] at this
    exact absurd (decide_eq_true hz) (by rw [show decide (z ≤ (l : Int)) = false from this]; decide)
theorem need_none {f : Nat → Nat → Nat → Int} {N : Nat} {row : List Int} {os : List (Option Int)} (h : Stands f N row os) {l : Nat} (hl : l ≤ N) (e : needF os (l : Int) = none) : ∀ k, k ≤ N → ¬ Can f row k l := by
  intro k hk c
  have hk2 : os[k]? = some (os[k]'(by rw [h.1]; omega)) := List.getElem?_eq_getElem _
  obtain ⟨z, ez, hz⟩ := ((h.2 k _ hk2).2 l hl).mp c
  have := fstO_none e k _ hk2
  rw [ez] at this
  exact absurd (decide_eq_true hz) (by rw [show decide (z ≤ (l : Int)) = false from this]; decide)
theorem few_some {g : Nat → Int} {m : Nat} {x j : Int} (e : fewest x ((List.range m).map g) = some j) : ∃ r : Nat, r < m ∧ j = (r : Int) ∧ x ≤ g r ∧ ∀ r', r' < r → ¬ x ≤ g r' := by
  obtain ⟨i, v, hj, hv, hp, hq⟩ := fstO_some e
  have hi := (List.getElem?_eq_some_iff.mp hv).1
  rw [List.length_map, List.length_range] at hi
  have val : ∀ k, k < m → ((List.range m).map g)[k]? = some (g k) := fun k hk => by rw [List.getElem?_map, List.getElem?_range hk]; rfl
  rw [val i hi] at hv
  obtain rfl := Option.some.inj hv
  exact ⟨i, hi, by rw [hj]; congr 1; omega, of_decide_eq_true hp, fun r' hr => of_decide_eq_false (hq r' _ hr (val r' (by omega)))⟩
theorem few_none {g : Nat → Int} {m : Nat} {x : Int} (e : fewest x ((List.range m).map g) = none) : ∀ r, r < m → ¬ x ≤ g r := fun r hr => of_decide_eq_false (fstO_none e r (g r) (by rw [List.getElem?_map, List.getElem?_range hr]; rfl))
theorem least_spec {x len : Int} : ∀ (T : List (List Int)) (os : List (Option Int)) (acc : Option Int),
    (∀ l, leastF x len acc T os = some l → acc = some l ∨ ∃ (i : Nat) (t : List Int) (a b : Int), T[i]? = some t ∧ os[i]? = some (some b) ∧ fewest x t = some a ∧ l = a + b ∧ l < len) ∧
    (∀ (i : Nat) (t : List Int) (a b : Int), T[i]? = some t → os[i]? = some (some b) → fewest x t = some a → a + b < len → ∃ l, leastF x len acc T os = some l ∧ l ≤ a + b) ∧
    (∀ z, acc = some z → ∃ l, leastF x len acc T os = some l ∧ l ≤ z)
  | [], os, acc => ⟨fun l h => .inl (by cases os <;> exact h), fun i t a b h => (by cases h), fun z h => ⟨z, (by cases os <;> exact h), Int.le_refl _⟩⟩
  | t :: T, [], acc => ⟨fun l h => .inl h, fun i t a b _ h => (by cases h), fun z h => ⟨z, h, Int.le_refl _⟩⟩
  | t :: T, o :: os, acc => by
    have ih := least_spec (x := x) (len := len) T os (stepL x len acc t o)
    have step : (∀ l, stepL x len acc t o = some l → acc = some l ∨ ∃ a b, o = some b ∧ fewest x t = some a ∧ l = a + b ∧ l < len) ∧
        (∀ a b, o = some b → fewest x t = some a → a + b < len → ∃ l, stepL x len acc t o = some l ∧ l ≤ a + b) ∧ (∀ z, acc = some z → ∃ l, stepL x len acc t o = some l ∧ l ≤ z) := by
      unfold stepL
      cases ef : fewest x t with
      | none => exact ⟨fun l h => .inl h, fun a b _ h => (by cases h), fun z h => ⟨z, h, Int.le_refl _⟩⟩
      | some a =>
        cases o with
        | none => exact ⟨fun l h => .inl h, fun a b h => (by cases h), fun z h => ⟨z, h, Int.le_refl _⟩⟩
        | some b =>
          show (∀ l, (if a + b < len ∧ (∀ z, acc = some z → a + b < z) then some (a + b) else acc) = some l → _) ∧ _
          by_cases c : a + b < len ∧ (∀ z, acc = some z → a + b < z)
          · refine ⟨fun l h => ?_, fun a' b' h1 h2 h3 => ?_, fun z h => ?_⟩
            · rw [if_pos c] at h
              exact .inr ⟨a, b, rfl, rfl, (Option.some.inj h).symm, by rw [← Option.some.inj h]; exact c.1⟩
            · cases h1; cases h2
              exact ⟨a + b, if_pos c, Int.le_refl _⟩
            · exact ⟨a + b, if_pos c, Int.le_of_lt (c.2 z h)⟩
          · refine ⟨fun l h => ?_, fun a' b' h1 h2 h3 => ?_, fun z h => ⟨z, (by show (if _ then _ else _) = _; rw [if_neg c]; exact h), Int.le_refl _⟩⟩
            · rw [if_neg c] at h
              exact .inl h
            · cases h1; cases h2
              have : ∃ z, acc = some z ∧ z ≤ a + b := by
                apply Classical.byContradiction
                intro no
                exact c ⟨h3, fun z hz => by
                  apply Classical.byContradiction
                  intro g
                  exact no ⟨z, hz, by omega⟩⟩
              obtain ⟨z, hz, hle⟩ := this
              exact ⟨z, (by show (if _ then _ else _) = _; rw [if_neg c]; exact hz), hle⟩
    show (∀ l, leastF x len (stepL x len acc t o) T os = some l → _) ∧ (∀ i t' a b, _ → _ → _ → _ → ∃ l, leastF x len (stepL x len acc t o) T os = some l ∧ _) ∧ (∀ z, _ → ∃ l, leastF x len (stepL x len acc t o) T os = some l ∧ _)
    refine ⟨fun l h => ?_, fun i t' a b h1 h2 h3 h4 => ?_, fun z h => ?_⟩
    · rcases ih.1 l h with h | ⟨i, t', a, b, g1, g2, g3, g4⟩
      · rcases step.1 l h with h | ⟨a, b, rfl, g2, g3⟩
        · exact .inl h
        · exact .inr ⟨0, t, a, b, rfl, rfl, g2, g3⟩
      · exact .inr ⟨i + 1, t', a, b, g1, g2, g3, g4⟩
    · cases i with
      | zero =>
        cases Option.some.inj h1
        obtain ⟨l, e, hl⟩ := step.2.1 a b (Option.some.inj h2) h3 h4
        obtain ⟨l', e', hl'⟩ := ih.2.2 l e
        exact ⟨l', e', by omega⟩
      | succ i => exact ih.2.1 i t' a b h1 h2 h3 h4
    · obtain ⟨l, e, hl⟩ := step.2.2 z h
      obtain ⟨l', e', hl'⟩ := ih.2.2 l e
      exact ⟨l', e', by omega⟩
theorem stair_stands {f : Nat → Nat → Nat → Int} (hf : Rises f) {N : Nat} (hN : N ≤ 16) {x : Int} {row : List Int} {os : List (Option Int)} (h : Stands f N row os) : Stands f N (x :: row) (stairF x (TabF f N) os) := by
  have nl : ((List.range os.length).map fun r : Nat => needF os (r : Int)).length = N + 1 := by rw [List.length_map, List.length_range, h.1]
  refine ⟨by unfold stairF; rw [List.length_map, List.length_range, h.1], fun k o ho => ?_⟩
  unfold stairF at ho
  simp only at ho
  rw [List.getElem?_map] at ho
  have hk : k < N + 1 := by
    apply Classical.byContradiction
    intro c
    rw [List.getElem?_eq_none (by rw [List.length_range, h.1]; omega)] at ho
    cases ho
  rw [List.getElem?_range (by rw [h.1]; exact hk)] at ho
  obtain rfl := Option.some.inj ho
  have tk : (TabF f N).getD k [] = (List.range k).map fun l => (List.range (k - l)).map fun r => f k r l := by
    unfold TabF
    rw [List.getD_eq_getElem?_getD, List.getElem?_map, List.getElem?_range hk]
    rfl
  dsimp only
  rw [tk, nl]
  obtain ⟨s1, s2, _⟩ := least_spec (x := x) (len := ((N + 1 : Nat) : Int)) ((List.range k).map fun l => (List.range (k - l)).map fun r => f k r l) ((List.range os.length).map fun r : Nat => needF os (r : Int)) none
  generalize leastF x ((N + 1 : Nat) : Int) none ((List.range k).map fun l => (List.range (k - l)).map fun r => f k r l) ((List.range os.length).map fun r : Nat => needF os (r : Int)) = o at s1 s2
  have back : ∀ l, o = some l → ∃ (r b i : Nat), i < k ∧ r < k - i ∧ l = (r : Int) + (b : Int) ∧ l < ((N + 1 : Nat) : Int) ∧ x ≤ f k r i ∧ Can f row b i := by
    intro l e
    rcases s1 l e with h' | ⟨i, t, a, b, g1, g2, g3, g4, g5⟩
    · cases h'
    · rw [List.getElem?_map] at g1 g2
      have hi : i < k := by
        apply Classical.byContradiction
        intro c
        rw [List.getElem?_eq_none (by rw [List.length_range]; omega)] at g1
        cases g1
      rw [List.getElem?_range hi] at g1
      rw [List.getElem?_range (by rw [h.1]; omega)] at g2
      obtain rfl := Option.some.inj g1
      obtain ⟨r, r1, r2, r3, _⟩ := few_some g3
      obtain ⟨b', b1, b2, b3, _⟩ := need_some h (show i ≤ N by omega) (Option.some.inj g2)
      exact ⟨r, b', i, hi, r1, by rw [g4, r2, b2], g5, r3, b3⟩
  refine ⟨fun l e => ?_, fun a ha => ⟨?_, ?_⟩⟩
  · obtain ⟨r, b, i, _, _, e2, e3, _, _⟩ := back l e
    exact ⟨by omega, by omega⟩
  · rintro ⟨r, l, c1, c2, c3, c4⟩
    have hl : l < k := by omega
    cases ef : fewest x ((List.range (k - l)).map fun r => f k r l) with
    | none => exact absurd c3 (few_none ef r (by omega))
    | some a0 =>
      obtain ⟨r0, p1, p2, p3, p4⟩ := few_some ef
      have r0r : r0 ≤ r := by
        apply Classical.byContradiction
        intro c
        exact p4 r (by omega) c3
      cases en : needF os (l : Int) with
      | none => exact absurd c4 (need_none h (by omega) en (a - r) (by omega))
      | some b0 =>
        obtain ⟨b, q1, q2, q3, q4⟩ := need_some h (show l ≤ N by omega) en
        have bb : b ≤ a - r := by
          apply Classical.byContradiction
          intro c
          exact q4 (a - r) (by omega) c4
        obtain ⟨z, ez, hz⟩ := s2 l _ a0 b0 (by rw [List.getElem?_map, List.getElem?_range hl]; rfl) (by rw [List.getElem?_map, List.getElem?_range (by rw [h.1]; omega)]; exact congrArg some en) ef (by omega)
        exact ⟨z, ez, by omega⟩
  · rintro ⟨l, e, hl⟩
    obtain ⟨r, b, i, i1, i2, e2, e3, c3, c4⟩ := back l e
    exact ⟨r, i, by omega, by omega, c3, can_mono hf row b (a - r) i i (by omega) (by omega) (Nat.le_refl _) (by omega) c4⟩
theorem stairs_stand {f : Nat → Nat → Nat → Int} (hf : Rises f) {N : Nat} (hN : N ≤ 16) : ∀ row : List Int, Stands f N row (headS (TabF f N) (List.replicate (N + 1) (some 0)) row)
  | [] => stands_nil
  | x :: row => by rw [headS_cons]; exact stair_stands hf hN (stairs_stand hf hN row)
def mostF (n r l : Nat) : Int := mostA (n : Int) ((r : Int) + 1) (l : Int)
theorem told_tab (m : Nat) : toldK m = TabF mostF m := rfl
theorem most_step : ∀ n : Fin 16, ∀ r : Fin 16, ∀ l : Fin 16, l.val + r.val < n.val → mostF n.val r.val l.val ≤ mostF (n.val + 1) r.val l.val := by decide +kernel
theorem most_rises : Rises mostF := by
  intro n n' r l h h16 c
  obtain ⟨d, rfl⟩ : ∃ d, n' = n + d := ⟨n' - n, by omega⟩
  induction d with
  | zero => exact Int.le_refl _
  | succ d ih => exact Int.le_trans (ih (by omega) (by omega)) (most_step ⟨n + d, by omega⟩ ⟨r, by omega⟩ ⟨l, by omega⟩ (by show l + r < n + d; omega))
theorem top_stands {m : Nat} (hm : m ≤ 16) (ns : List Int) : Stands mostF m ns (topS m ns) := stairs_stand most_rises hm ns
end L2.U


set_option Elab.async false
set_option linter.all false
set_option maxRecDepth 100000
set_option maxHeartbeats 4000000
namespace L2.U
open PySem PySem.Spec PyProof.Rows Evl


section
variable {P : Program} {w : World} {K : PySem.W.Frag} {mg : Str → Option Value} {base : Heap}
def lcs_law_bests : Scope := relabel (match (defBody s_law_bests).getD 0 (.Pass ⟨0, 0, 0, 0⟩) with
  | .Return (some (.ListComp _ _ sc _)) _ => sc
  | _ => defScope s_law_bests) (dumEnv (defScope s_law_bests))
def lcs2_law_bests : Scope := relabel (match (defBody s_law_bests).getD 0 (.Pass ⟨0, 0, 0, 0⟩) with
  | .Return (some (.ListComp (.ListComp _ _ sc _) _ _ _)) _ => sc
  | _ => defScope s_law_bests) (dumEnv lcs_law_bests)
def lcs_law_lefts : Scope := relabel (match (defBody s_law_lefts).getD 1 (.Pass ⟨0, 0, 0, 0⟩) with
  | .For _ _ [.Expr (.Call _ [.ListComp _ _ sc _] _ _) _] _ _ => sc
  | _ => defScope s_law_lefts) (dumEnv (defScope s_law_lefts))
def bestRow (n : Nat) : List (List Int) := (List.range (n + 1)).map fun r => (List.range (n - r)).map fun l => mostF n r l
def bestsF (m : Nat) : List (List (List Int)) := (List.range (m + 1)).map bestRow
def spLBests (K : PySem.W.Frag) : Sp := fun vs H Q _ => ∃ m : Nat, vs = [.int (m : Int)] ∧ m ≤ 16 ∧ ∀ p H', Ex H H' → Rd K (fun a => H a = none) H' 3 (.ref p) (list3 (bestsF m)) → Q (.ref p) H'
theorem ok_law_bests (T : TK K mg) : FnOk P w K mg base CX0 3 T.law_bests.a T.law_bests.fd ["most"] (spLBests K) := by
  refine T.law_bests.F.ok sc_law_bests (fun vs H Q E h => ?_) (fun cdv A outer s H vs Q E hr h => ?_)
  · obtain ⟨m, rfl, _⟩ := h; rfl
  obtain ⟨m, rfl, hm, q⟩ := h
  refine ⟨_, (pss_one (ps_ret (pe_lc (own := [("n", 3)]) (g := gName 3) (by rfl) sc_law_bests.nd (pi_range1 rfl T.z_range (pa_cons (pe_op op_add (pv 0) pe_int) pa_nil)) (blkOk_by (own := [("n", 3)]) (N := ["most", "left", "r", "n"]) (sc := defScope s_law_bests) (by decide +kernel)) (fun _ _ _ _ _ => (pg_name (i := 3) sc_law_bests.nd rfl (Or.inr rfl))) (fun _ _ _ _ _ => pts_nil) (fun _ _ _ _ _ => (pe_lc (own := [("r", 2)]) (g := gName 2) (by rfl) sc_law_bests.nd (pi_range1 rfl T.z_range (pa_cons (pe_op op_add (pv 3) pe_int) pa_nil)) (blkOk_by (own := [("r", 2)]) (N := ["most", "left", "r", "n"]) (sc := lcs_law_bests) (by decide +kernel)) (fun _ _ _ _ _ => (pg_name (i := 2) sc_law_bests.nd rfl (Or.inr rfl))) (fun _ _ _ _ _ => pts_nil) (fun _ _ _ _ _ => (pe_lc (own := [("left", 1)]) (g := gName 1) (by rfl) sc_law_bests.nd (pi_range1 rfl T.z_range (pa_cons (pe_callB (call_max2 rfl) (by rfl) T.z_max (by decide +kernel) (pa_cons pe_int (pa_cons (pe_op op_sub (pv 3) (pv 2)) pa_nil))) pa_nil)) (blkOk_by (own := [("left", 1)]) (N := ["most", "left", "r", "n"]) (sc := lcs2_law_bests) (by decide +kernel)) (fun _ _ _ _ _ => (pg_name (i := 1) sc_law_bests.nd rfl (Or.inl rfl))) (fun _ _ _ _ _ => pts_nil) (fun _ _ _ _ _ => (pe_call (ok_law_best T) (hr.mono (by decide)) rfl T.law_best.m T.law_best.F.kp T.law_best.b .nil pass0 (pa_cons (pv 3) (pa_cons (pe_op op_add (pv 2) pe_int) (pa_cons (pv 1) pa_nil)))))))))))), ?_⟩
  refine lc_rd (K := K) (σ := [some (.int (m : Int)), none, none, none]) (vs := [3]) (m := 2) (d := fun k => list2 (bestRow k)) (ea_cons (ev_op (ev_var rfl) ev_c rv_I0) ea_nil) ⟨by omega, by omega⟩ (fun _ => rfl) (fun k H1 e1 hk Q1 q1 => ?_) (fun p H' e rr => q p H' e ?_)
  · refine lc_rd (K := K) (σ := [some (.int (m : Int)), none, none, some (.int (k : Int))]) (vs := [2]) (m := 1) (d := fun r => listI ((List.range (k - r)).map fun l => mostF k r l)) (ea_cons (ev_op (ev_var rfl) ev_c rv_I0) ea_nil) ⟨by omega, by omega⟩ (fun _ => rfl) (fun r H2 e2 hr2 Q2 q2 => ?_) (fun p H' e rr => q1 _ H' e ?_)
    · refine lc_rd (K := K) (σ := [some (.int (m : Int)), none, some (.int (r : Int)), some (.int (k : Int))]) (vs := [1]) (m := 0) (n := if (k : Int) - (r : Int) > 0 then (k : Int) - (r : Int) else 0) (d := fun l => .int (mostF k r l)) (fun H1 e Q q => ⟨_, rfl, _, rfl, _, _, rfl, rfl, _, _, rfl, q _ (Ex.refl _)⟩) ⟨by split <;> omega, by split <;> omega⟩ (fun _ => rfl) (fun l H3 e3 hl Q3 q3 => ?_) (fun p H' e rr => q2 _ H' e ?_)
      · exact ⟨_, rfl, _, rfl, _, _, rfl, rfl, _, rfl, (k : Int), (r : Int) + 1, (l : Int), rfl, by omega, by omega, by omega, by omega, fun H4 e4 => q3 _ _ e4 (.int _)⟩
      · have e1 : listI ((List.range (k - r)).map fun l => mostF k r l) = .list ((List.range (if (k : Int) - (r : Int) > 0 then (k : Int) - (r : Int) else 0).toNat).map fun l => .int (mostF k r l)) := by
          have : (if (k : Int) - (r : Int) > 0 then (k : Int) - (r : Int) else 0).toNat = k - r := by split <;> omega
          rw [this]
          unfold listI
          rw [List.map_map]
          rfl
        rw [e1]
        exact rr
    · have e1 : list2 (bestRow k) = .list ((List.range ((k : Int) + 1).toNat).map fun r => listI ((List.range (k - r)).map fun l => mostF k r l)) := by
        unfold list2 bestRow
        rw [List.map_map, show ((k : Int) + 1).toNat = k + 1 by omega]
        rfl
      rw [e1]
      exact rr
  · have e1 : list3 (bestsF m) = .list ((List.range ((m : Int) + 1).toNat).map fun k => list2 (bestRow k)) := by
      unfold list3 bestsF
      rw [List.map_map, show ((m : Int) + 1).toNat = m + 1 by omega]
      rfl
    rw [e1]
    exact rr
/-! ### the greatest rests -/
def leftTo (x : Int) (f : Nat → Int) : Nat → Int
  | 0 => -1
  | k + 1 => if x ≤ f k then (k : Int) else leftTo x f k
theorem leftTo_spec (x : Int) (f : Nat → Int) : ∀ m, (leftTo x f m = -1 ∧ ∀ l, l < m → ¬ x ≤ f l) ∨ ∃ L, L < m ∧ leftTo x f m = (L : Int) ∧ x ≤ f L ∧ ∀ l, l < m → x ≤ f l → l ≤ L
  | 0 => .inl ⟨rfl, fun l h => absurd h (Nat.not_lt_zero _)⟩
  | m + 1 => by
    unfold leftTo
    by_cases c : x ≤ f m
    · rw [if_pos c]
      exact .inr ⟨m, by omega, rfl, c, fun l h _ => by omega⟩
    · rw [if_neg c]
      rcases leftTo_spec x f m with ⟨h1, h2⟩ | ⟨L, h1, h2, h3, h4⟩
      · exact .inl ⟨h1, fun l h => by
          by_cases e : l = m
          · rw [e]; exact c
          · exact h2 l (by omega)⟩
      · exact .inr ⟨L, by omega, h2, h3, fun l h g => by
          by_cases e : l = m
          · rw [e] at g; exact absurd g c
          · exact h4 l (by omega) g⟩
def leftOf (x : Int) (one : List Int) : Int := leftTo x (fun l => one.getD l 0) one.length
theorem leftOf_max {x m : Int} {one : List Int} (hm : m ∈ -1 :: ((List.range one.length).filter fun l => decide (x ≤ one.getD l 0)).map fun l : Nat => (l : Int)) (hy : ∀ y, y ∈ -1 :: ((List.range one.length).filter fun l => decide (x ≤ one.getD l 0)).map (fun l : Nat => (l : Int)) → y ≤ m) : m = leftOf x one := by
  have inn : ∀ l, l < one.length → x ≤ one.getD l 0 → (l : Int) ≤ m := fun l h g => hy _ (List.mem_cons_of_mem _ (List.mem_map.mpr ⟨l, List.mem_filter.mpr ⟨List.mem_range.mpr h, decide_eq_true g⟩, rfl⟩))
  have h1 := hy (-1) List.mem_cons_self
  unfold leftOf
  rcases List.mem_cons.mp hm with e | hm
  · rcases leftTo_spec x (fun l => one.getD l 0) one.length with ⟨g, _⟩ | ⟨L, a1, a2, a3, a4⟩
    · rw [g, e]
    · have := inn L a1 a3; omega
  · obtain ⟨l, hl, rfl⟩ := List.mem_map.mp hm
    obtain ⟨l1, l2⟩ := List.mem_filter.mp hl
    have l1 := List.mem_range.mp l1
    have l2 : x ≤ one.getD l 0 := of_decide_eq_true l2
    rcases leftTo_spec x (fun l => one.getD l 0) one.length with ⟨g, g2⟩ | ⟨L, a1, a2, a3, a4⟩
    · exact absurd l2 (g2 l l1)
    · have := inn L a1 a3
      have := a4 l l1 l2
      rw [a2]
      omega
theorem given_ints {n : Nat} {f : Nat → Bool} : given n f (fun l : Nat => V.int (l : Int)) = (((List.range n).filter f).map fun l : Nat => (l : Int)).map V.int := by
  unfold given
  rw [List.map_map]
  rfl
theorem range_getD {α β : Type} (g : α → β) : ∀ (l : List α) (d : α), (List.range l.length).map (fun k => g (l.getD k d)) = l.map g := by
  intro l d
  apply List.ext_getElem?
  intro i
  rw [List.getElem?_map, List.getElem?_map]
  by_cases hi : i < l.length
  · rw [List.getElem?_range hi, List.getElem?_eq_getElem hi]
    show some (g (l.getD i d)) = some (g l[i])
    rw [List.getD_eq_getElem?_getD, List.getElem?_eq_getElem hi]
    rfl
  · rw [List.getElem?_eq_none (by rw [List.length_range]; omega), List.getElem?_eq_none (by omega)]
    rfl
theorem ints_getD {ns : List Int} {i : Nat} (h : i < ns.length) : (ns.map V.int)[i]? = some (.int (ns.getD i 0)) := by
  rw [List.getElem?_map, List.getElem?_eq_getElem h, List.getD_eq_getElem?_getD, List.getElem?_eq_getElem h]
  rfl
def leftsF (x : Int) (B : List (List (List Int))) : List (List Int) := B.map fun row => row.map (leftOf x)
def spLLefts (K : PySem.W.Frag) : Sp := fun vs H Q _ => ∃ (x : Int) (p : V) (B : List (List (List Int))) (m : Nat) (ok : Addr → Prop), vs = [.int x, p] ∧ Rd K ok H m p (list3 B) ∧ B.length ≤ 100 ∧ (∀ r ∈ B, r.length ≤ 100 ∧ ∀ o ∈ r, o.length ≤ 100) ∧
  ∀ q H', Ex H H' → Rd K (fun a => H a = none) H' 2 (.ref q) (list2 (leftsF x B)) → Q (.ref q) H'
theorem ok_law_lefts (T : TK K mg) : FnOk P w K mg base CX0 1 T.law_lefts.a T.law_lefts.fd ["number", "bests"] (spLLefts K) := by
  refine T.law_lefts.F.ok sc_law_lefts (fun vs H Q E h => ?_) (fun cdv A outer s H vs Q E hr h => ?_)
  · obtain ⟨x, p, B, m, ok, rfl, _⟩ := h; rfl
  obtain ⟨x, p, B, m, ok, rfl, hp, hB, hr2, q⟩ := h
  refine ⟨_, (pss_cons (ps_set (i := 2) sc_law_lefts.nd rfl (Or.inl rfl) (pe_lst pa_nil))
    (pss_cons (ps_for PassesOwn.never rfl (kpil K (pv 1)) (pg_name (i := 3) sc_law_lefts.nd rfl (Or.inl rfl)) (pss_one (ps_expr (pe_bm PySem.F.plainAttrs_list PySem.F.slot_list_append PySem.F.type_list_append mt_append (pv 2) (pa_cons (pe_lc (own := [("one", 5)]) (g := gName 5) (by rfl) sc_law_lefts.nd (kpil K (pv 3)) (blkOk_by (own := [("one", 5)]) (N := ["number", "bests", "found", "row", "left", "one"]) (sc := defScope s_law_lefts) (by decide +kernel)) (fun _ _ _ _ _ => (pg_name (i := 5) sc_law_lefts.nd rfl (Or.inr rfl))) (fun _ _ _ _ _ => pts_nil) (fun _ _ _ _ _ => (pe_callB (kmax K rfl) (by rfl) T.z_max (by decide +kernel) (pa_cons (pe_op op_cat (pe_lst (pa_cons (pe_un un_neg pe_int) pa_nil)) (pe_lc (own := [("left", 4)]) (g := gName 4) (by rfl) sc_law_lefts.nd (pi_range1 rfl T.z_range (pa_cons (pe_callB (klen K) (by rfl) T.z_len (by decide +kernel) (pa_cons (pv 5) pa_nil)) pa_nil)) (blkOk_by (own := [("left", 4)]) (N := ["number", "bests", "found", "row", "left", "one"]) (sc := lcs_law_lefts) (by decide +kernel)) (fun _ _ _ _ _ => (pg_name (i := 4) sc_law_lefts.nd rfl (Or.inl rfl))) (fun _ _ _ _ _ => (pts_one (pt_cmpR op_ge (pe_ix (kixl K) (pv 5) (pv 4) (fun _ _ => rfl)) (pv 0) (nomark _)))) (fun _ _ _ _ _ => (pv 4)))) pa_nil)))) pa_nil)))))
    (pss_one (ps_ret (pv 2))))), ?_⟩
  obtain ⟨b, vs, rfl, hb, hlen, hz, all⟩ := rd_list3 hp
  refine ⟨Nat.zero_le _, fun F hF => ?_⟩
  have e0 := Ex.new (o := .lst []) hF
  refine ⟨_, rfl, b, rfl, ⟨vs, ex_l e0 (SqL.of hb)⟩, for_list (xs := vs) (fun i σ H' => Ex H H' ∧ ∃ (xs : List V) (v : Option V), H' F = some (.lst xs) ∧ xs.length = i ∧ RdL K (fun a => H a = none ∧ a ≠ F) H' 1 xs ((leftsF x (B.take i)).map listI) ∧ σ = [some (.int x), some (.ref b), some (.ref F), v, none, none])
    ⟨e0, [], _, upd_same, rfl, ⟨rfl, fun i x d hx _ => by cases hx⟩, rfl⟩ (fun i σ H' _ p => ex_l p.1 (SqL.of hb)) ?_ ?_⟩
  · rintro i v σ H' hx ⟨e, xs, v0, hFF, hl, rl, rfl⟩
    obtain ⟨row, hrow, rrow⟩ := all i v hx
    have hi := (List.getElem?_eq_some_iff.mp hx).1
    obtain ⟨c, us, rfl, hc, hul, huz, uall⟩ := rd_list2 (rrow.ex e)
    have rm := hr2 row (List.mem_of_getElem? hrow)
    have el := el_lcL (K := K) (σ := [some (.int x), some (.ref b), some (.ref F), some (.ref c), none, none]) (H := H') (a := c) (xs := us) (tl := tVar 3) (t := tYes) (te := tCB (rMax K) (tCons
                    (tOp rCat (tLst (tCons (tUn (rU fun i => V.int (-i)) (tC (V.int 1))) tNil))
                      (tLc (iRng1 (tCons (tCB (rLen K) (tCons (tVar 5) tNil)) tNil)) (gName 4)
                        (tTest (tOp (rI0 fun i j => V.bl (decide (j ≤ i))) (tOp (rIxL K) (tVar 5) (tVar 4)) (tVar 0)))
                        (tVar 4) [4])) tNil)) (j := 5) (vs := [5]) (fun _ => true) (fun k => .int (leftOf x (row.getD k []))) (ev_var rfl) (SqL.of hc) (by omega) (fun _ => rfl) (fun i x H1 _ _ H2 _ Q k => k H2 (Ex.refl _)) (fun k u H1 e1 hu _ => ?_)
    · refine ⟨_, rfl, .inl ⟨rfl, _, SqL.of hFF⟩, el H' (Ex.refl _) _ fun p H2 hp e2 h2 => ⟨F, xs, .ref p, rfl, rfl, e2 _ _ hFF, small1000 (by omega), (e.trans e2).mut hF, xs ++ [.ref p], _, upd_same, by rw [List.length_append, hl]; rfl, ?_, rfl⟩⟩
      have pF : p ≠ F := by rintro rfl; rw [hFF] at hp; cases hp
      have p0 : H p = none := fresh_back e hp
      have el2 : leftsF x (B.take (i + 1)) = leftsF x (B.take i) ++ [row.map (leftOf x)] := by
        unfold leftsF
        rw [List.take_add_one, hrow, List.map_append]
        rfl
      rw [el2, List.map_append]
      have hv : given us.length (fun _ => true) (fun k => V.int (leftOf x (row.getD k []))) = (row.map (leftOf x)).map V.int := by
        rw [given_all, hul, range_getD (fun o => V.int (leftOf x o)) row [], List.map_map]
        rfl
      rw [hv] at h2
      refine RdL.snoc ((rl.ex e2).but (b := F) But.upd (fun a ha => ha.2)) ?_
      have rd := rdl_ints (K := K) (ok := fun a => H a = none ∧ a ≠ F) (H := upd H2 F (.lst (xs ++ [.ref p]))) (n := 0) (row.map (leftOf x))
      exact .lst (by rw [upd_ne pF]; exact h2) ⟨p0, pF⟩ rd.1 (by rw [List.length_map, List.length_map]; omega) rd.2
    · obtain ⟨o, t, rfl, ht, ho⟩ := uall k u hu
      have tl := rm.2 t (List.mem_of_getElem? ht)
      have et : row.getD k [] = t := by rw [List.getD_eq_getElem?_getD, ht]; rfl
      rw [et]
      have c1 := el_lcR1 (σ := [some (.int x), some (.ref b), some (.ref F), some (.ref c), none, some (.ref o)]) (H := H1) (ta := tCons (tCB (rLen K) (tCons (tVar 5) tNil)) tNil) (t := tTest (tOp (rI0 fun i j => V.bl (decide (j ≤ i))) (tOp (rIxL K) (tVar 5) (tVar 4)) (tVar 0))) (te := tVar 4) (j := 4) (vs := [4]) (n := (t.length : Int)) (fun l => decide (x ≤ t.getD l 0)) (fun l => .int (l : Int))
        (fun H2 e2 Q q => ⟨_, rfl, _, _, rfl, .inl ⟨_, ex_l (e1.trans e2) (SqL.of ho), rfl⟩, by rw [List.length_map]; exact q _ (Ex.refl _)⟩) ⟨by omega, by omega⟩ (fun _ => rfl)
        (fun l H2 e2 hl2 H3 e3 Q k => ⟨_, rfl, _, rfl, _, _, (l : Int), .int (t.getD l 0), rfl, rfl, ex_l (e1.trans (e2.trans e3)) (SqL.of ho), atI_nat (ints_getD (by omega)), _, rfl, _, _, rfl, rfl, _, rfl, k _ (Ex.refl _)⟩)
        (fun l H2 e2 hl2 _ H3 e3 Q k => ⟨_, rfl, k _ (Ex.refl _)⟩)
      rw [given_ints] at c1
      have both := el_catL (el_lst (σ := [some (.int x), some (.ref b), some (.ref F), some (.ref c), none, some (.ref o)]) (H := H1) (ea_cons (ta := tUn (rU fun i => V.int (-i)) (tC (V.int 1))) (x := V.int (-1)) (ev_un (x := V.int 1) ev_c ru_neg) ea_nil) (by show 1 ≤ 100000; decide)) c1 (by
        have := List.length_filter_le (fun l => decide (x ≤ t.getD l 0)) (List.range (t.length : Int).toNat)
        rw [List.length_range] at this
        rw [List.length_map, List.length_map]
        show 1 + _ ≤ 100000
        omega)
      intro H2 e2 Q2 k2
      refine both H2 e2 _ fun p H3 hp e3 h3 => ⟨p, -1 :: ((List.range t.length).filter fun l => decide (x ≤ t.getD l 0)).map (fun l : Nat => (l : Int)), rfl, SqL.of (by rw [h3, Int.toNat_natCast]; rfl), Nat.succ_pos _, fun m hm hy => ?_⟩
      rw [leftOf_max hm hy]
      exact k2 H3 e3
  · rintro σ H' ⟨e, xs, v0, hFF, hl, rl, rfl⟩
    rw [hlen, List.take_length] at rl
    exact ⟨_, rfl, q F H' e (.lst hFF hF rl.1 (by omega) fun i x d hx hd => (rl.2 i x d hx hd).of fun a ha => ha.1)⟩
end
end L2.U


set_option Elab.async false
set_option linter.all false
set_option maxRecDepth 100000
set_option maxHeartbeats 4000000
namespace L2.U
open PySem PySem.Spec PyProof.Rows Evl


section
variable {P : Program} {w : World} {K : PySem.W.Frag} {mg : Str → Option Value} {base : Heap}
/-! ### the table of what can be told -/
def Lf (x : Int) (n r : Nat) : Int := leftOf x ((List.range (n - r)).map fun l => mostF n r l)
def stepT (L : Nat → Nat → Int) (t : Nat → Nat → Bool) (n a : Nat) : Bool := (List.range ((if n < a then n else a) + 1)).any fun r => decide (0 ≤ L n r) && t (a - r) (L n r).toNat
def tabF : List Int → Nat → Nat → Bool
  | [] => fun _ _ => true
  | x :: ns => stepT (Lf x) (tabF ns)
theorem Lf_spec (x : Int) (n r : Nat) : (Lf x n r = -1 ∧ ∀ l, l < n - r → ¬ x ≤ mostF n r l) ∨ ∃ L, L < n - r ∧ Lf x n r = (L : Int) ∧ x ≤ mostF n r L ∧ ∀ l, l < n - r → x ≤ mostF n r l → l ≤ L := by
  have g : ∀ l, l < n - r → ((List.range (n - r)).map fun l => mostF n r l).getD l 0 = mostF n r l := fun l h => by
    rw [List.getD_eq_getElem?_getD, List.getElem?_map, List.getElem?_range h]; rfl
  have ln : ((List.range (n - r)).map fun l => mostF n r l).length = n - r := by rw [List.length_map, List.length_range]
  unfold Lf leftOf
  rcases leftTo_spec x (fun l => ((List.range (n - r)).map fun l => mostF n r l).getD l 0) (n - r) with ⟨h1, h2⟩ | ⟨L, h1, h2, h3, h4⟩
  · rw [ln]
    exact .inl ⟨h1, fun l h => by have := h2 l h; rw [g l h] at this; exact this⟩
  · rw [ln]
    refine .inr ⟨L, h1, h2, by rw [g L h1] at h3; exact h3, fun l h k => h4 l h (by rw [g l h]; exact k)⟩
theorem Lf_lt {x : Int} {n r : Nat} (h : 0 ≤ Lf x n r) : (Lf x n r).toNat + r < n := by
  rcases Lf_spec x n r with ⟨h1, _⟩ | ⟨L, h1, h2, _, _⟩ <;> omega
theorem tab_can {m : Nat} (hm : m ≤ 16) : ∀ (ns : List Int) (n a : Nat), n ≤ m → a ≤ m → (tabF ns n a = true ↔ Can mostF ns n a)
  | [], n, a, _, _ => ⟨fun _ => trivial, fun _ => rfl⟩
  | x :: ns, n, a, hn, ha => by
    rw [can_best most_rises (by omega) (by omega)]
    show stepT (Lf x) (tabF ns) n a = true ↔ _
    unfold stepT
    rw [List.any_eq_true]
    constructor
    · rintro ⟨r, hr, hc⟩
      have hr := List.mem_range.mp hr
      have hr1 : r ≤ a ∧ r ≤ n := by split at hr <;> omega
      rw [Bool.and_eq_true] at hc
      obtain ⟨c1, c2⟩ := hc
      have c1 := of_decide_eq_true c1
      rcases Lf_spec x n r with ⟨h1, _⟩ | ⟨L, h1, h2, h3, h4⟩
      · omega
      · refine ⟨r, hr1.1, hr1.2, L, by omega, h3, fun l h k => h4 l (by omega) k, (tab_can hm ns (a - r) L (by omega) (by omega)).mp ?_⟩
        rw [h2] at c2
        exact c2
    · rintro ⟨r, h1, h2, L, h3, h4, h5, h6⟩
      refine ⟨r, List.mem_range.mpr (by split <;> omega), ?_⟩
      rw [Bool.and_eq_true]
      rcases Lf_spec x n r with ⟨_, g⟩ | ⟨L', g1, g2, g3, g4⟩
      · exact absurd h4 (g L (by omega))
      · have e1 := h5 L' (by omega) g3
        have e2 := g4 L (by omega) h4
        obtain rfl : L = L' := by omega
        refine ⟨decide_eq_true (by omega), ?_⟩
        rw [g2]
        exact (tab_can hm ns (a - r) L (by omega) (by omega)).mpr h6
def rowB (m : Nat) (t : Nat → Bool) : PyData := .list ((List.range (m + 1)).map fun a => .bool (t a))
def tabD (m : Nat) (t : Nat → Nat → Bool) : PyData := .list ((List.range (m + 1)).map fun n => rowB m (t n))
theorem rd_rowB {ok : Addr → Prop} {H : Hp} {j m : Nat} {x : V} {t : Nat → Bool} (h : Rd K ok H j x (rowB m t)) : ∃ b xs, x = .ref b ∧ H b = some (.lst xs) ∧ ∀ a, a ≤ m → xs[a]? = some (.bl (t a)) := by
  unfold rowB at h
  generalize hd : (PyData.list ((List.range (m + 1)).map fun a => PyData.bool (t a))) = d at h
  cases h with
  | lst h ha hl hz all =>
    cases hd
    rw [List.length_map, List.length_range] at hl
    refine ⟨_, _, rfl, h, fun a ha => ?_⟩
    have hx := List.getElem?_eq_getElem (show a < _ by rw [hl]; omega)
    rw [hx]
    have r := all a _ (.bool (t a)) hx (by rw [List.getElem?_map, List.getElem?_range (by omega)]; rfl)
    generalize (_ : List V)[a]'_ = y at r ⊢
    cases r
    rfl
  | _ => cases hd
theorem rd_tab {ok : Addr → Prop} {H : Hp} {j m : Nat} {x : V} {t : Nat → Nat → Bool} (h : Rd K ok H j x (tabD m t)) : ∃ p xs, x = .ref p ∧ H p = some (.lst xs) ∧ ∀ n, n ≤ m → ∃ b ys, xs[n]? = some (.ref b) ∧ H b = some (.lst ys) ∧ ∀ a, a ≤ m → ys[a]? = some (.bl (t n a)) := by
  unfold tabD at h
  generalize hd : (PyData.list ((List.range (m + 1)).map fun n => rowB m (t n))) = d at h
  cases h with
  | lst h ha hl hz all =>
    cases hd
    rw [List.length_map, List.length_range] at hl
    refine ⟨_, _, rfl, h, fun n hn => ?_⟩
    have hx := List.getElem?_eq_getElem (show n < _ by rw [hl]; omega)
    have r := all n _ (rowB m (t n)) hx (by rw [List.getElem?_map, List.getElem?_range (by omega)]; rfl)
    obtain ⟨b, ys, e, hb, hy⟩ := rd_rowB r
    exact ⟨b, ys, by rw [hx, e], hb, hy⟩
  | _ => cases hd
theorem cutV_take {xs : List V} {k : Nat} : cutV xs none (some (k : Int)) = xs.take k := by
  unfold cutV
  rw [HT.sIx_nat]
  show (xs.drop 0).take (min k xs.length - 0) = _
  rw [List.drop_zero, Nat.sub_zero]
  exact List.take_eq_take_iff.mpr (by omega)
theorem rd_cut {ok : Addr → Prop} {H : Hp} {j k p : Nat} {b : Addr} {xs : List V} {ds : List PyData} (h : Rd K ok H (j + 1) (.ref b) (.list ds)) (hb : H b = some (.lst xs)) (hp : H p = some (.lst (xs.take k))) {ok' : Addr → Prop} (w : ∀ a, ok a → ok' a) (op : ok' p) : Rd K ok' H (j + 1) (.ref p) (.list (ds.take k)) := by
  cases h with
  | lst h ha hl hz all =>
    rw [hb] at h
    cases h
    refine .lst hp op (by rw [List.length_take, List.length_take, hl]) (by rw [List.length_take]; omega) fun i x d hx hd => ?_
    rw [List.getElem?_take] at hx hd
    by_cases c : i < k
    · rw [if_pos c] at hx hd
      exact (all i x d hx hd).of w
    · rw [if_neg c] at hx
      cases hx
theorem bests_take {N m : Nat} (h : m ≤ N) : ((bestsF N).map list2).take (m + 1) = (bestsF m).map list2 := by
  unfold bestsF
  rw [← List.map_take, ← List.map_take, List.take_range, Nat.min_eq_left (by omega)]
theorem any_ne {n : Nat} {f : Nat → Bool} : (!PyData.eqv (.list ((((List.range n).filter f).map fun l : Nat => (l : Int)).map PyData.int)) (.list [])) = (List.range n).any f := by
  cases c : (List.range n).filter f with
  | nil =>
    have : (List.range n).any f = false := by
      rw [List.any_eq_false]
      intro x hx hf
      have := List.mem_filter.mpr ⟨hx, hf⟩
      rw [c] at this
      cases this
    rw [this]
    rfl
  | cons y ys =>
    have : (List.range n).any f = true := by
      rw [List.any_eq_true]
      have := List.mem_filter.mp (show y ∈ (List.range n).filter f by rw [c]; exact List.mem_cons_self)
      exact ⟨y, this⟩
    rw [this]
    rfl
theorem rd_lefts {ok : Addr → Prop} {H : Hp} {j m : Nat} {x : Int} {y : V} (h : Rd K ok H j y (list2 (leftsF x (bestsF m)))) : ∃ l vs, y = .ref l ∧ H l = some (.lst vs) ∧ ∀ n, n ≤ m → ∃ b ys, vs[n]? = some (.ref b) ∧ H b = some (.lst ys) ∧ ∀ r, r ≤ n → ys[r]? = some (.int (Lf x n r)) := by
  obtain ⟨l, vs, rfl, hl, hlen, _, all⟩ := rd_list2 h
  refine ⟨l, vs, rfl, hl, fun n hn => ?_⟩
  have e0 : (leftsF x (bestsF m))[n]? = some ((bestRow n).map (leftOf x)) := by
    unfold leftsF bestsF
    rw [List.getElem?_map, List.getElem?_map, List.getElem?_range (by omega)]
    rfl
  have ln : n < vs.length := by
    rw [hlen]
    exact (List.getElem?_eq_some_iff.mp e0).1
  obtain ⟨b, t, e1, e2, e3⟩ := all n _ (List.getElem?_eq_getElem ln)
  rw [e0] at e2
  cases e2
  refine ⟨b, _, by rw [List.getElem?_eq_getElem ln, e1], e3, fun r hr => ?_⟩
  unfold bestRow
  rw [List.getElem?_map, List.getElem?_map, List.getElem?_map, List.getElem?_range (by omega)]
  rfl
end
end L2.U


set_option Elab.async false
set_option linter.all false
set_option maxRecDepth 100000
set_option maxHeartbeats 4000000
namespace L2.U
open PySem PySem.Spec PyProof.Rows Evl


section
variable {P : Program} {w : World} {K : PySem.W.Frag} {mg : Str → Option Value} {base : Heap}
theorem lc_rdS {σ : L2.St} {H : Hp} {ta : TA} {te : TE} {i j m : Nat} {vs : List Nat} {n : Int} {d : Nat → PyData} {rest : TS} {D : Ends} (h : EvA ta σ H [.int n]) (hn : 0 ≤ n ∧ n ≤ 900) (hw : ∀ x, wipe ((wipe σ vs).set j (some x)) vs = wipe σ vs)
    (he : ∀ (i : Nat) H1, Ex H H1 → (i : Int) < n → ∀ Q : VK, (∀ x H2, Ex H1 H2 → Rd K (fun a => H1 a = none) H2 m x (d i) → Q x H2) → te ((wipe σ vs).set j (some (.int (i : Int)))) H1 Q)
    (q : ∀ p H', Ex H H' → Rd K (fun a => H a = none) H' (m + 1) (.ref p) (.list ((List.range n.toNat).map d)) → rest D (σ.set i (some (.ref p))) H') : tSeq (tAsg (tLc (iRng1 ta) (gName j) tYes te vs) (gName i)) rest D σ H :=
  lc_rd (K := K) (Q := fun v H' => rest D (σ.set i (some v)) H') h hn hw he q
theorem gn_ {i : Nat} {v : V} {σ : L2.St} {H : Hp} {k : L2.St → Hp → Prop} (h : k (σ.set i (some v)) H) : gName i v σ H k := h
theorem el_seq {i : Nat} {te : TE} {xs : List V} {rest : TS} {D : Ends} {σ : L2.St} {H : Hp} (h : EvL te σ H xs) (q : ∀ p H', H p = none → Ex H H' → H' p = some (.lst xs) → rest D (σ.set i (some (.ref p))) H') : tSeq (tAsg te (gName i)) rest D σ H := h H (Ex.refl _) _ q
theorem most_in : ∀ n : Fin 17, ∀ r : Fin 17, ∀ l : Fin 17, l.val + r.val < n.val → 1 ≤ mostF n.val r.val l.val ∧ mostF n.val r.val l.val ≤ 1000000000000000000 := by decide +kernel
theorem four_le : 4 ≤ sizeLine := by decide
theorem three_le : 3 ≤ sizeLine := by decide
theorem six_le : 6 ≤ sizeLine := by decide
theorem ev_seq {i : Nat} {te : TE} {v : V} {rest : TS} {D : Ends} {σ : L2.St} {H : Hp} (h : Ev te σ H v) (q : ∀ H', Ex H H' → rest D (σ.set i (some v)) H') : tSeq (tAsg te (gName i)) rest D σ H := h H (Ex.refl _) _ q
theorem ten_le : 10 ≤ sizeLine := by decide
theorem butMut {b p : Addr} {H H' : Hp} {o : HO} (k : But b H H') (h : H p = Option.none) : But b H (upd H' p o) := fun a u ha hu => by
  rw [upd_ne (ne_of_none hu h)]
  exact k a u ha hu
theorem box_mut {H : Hp} {b p : Addr} {n : Nat} {o : HO} (h : BoxAt H b n) (hp : p ≠ b) : BoxAt (upd H p o) b n := by
  obtain ⟨d, m, c, f, h, r⟩ := h
  exact ⟨d, m, c, f, by rw [upd_ne (Ne.symm hp)]; exact h, r⟩
def m3 (i j k : Int) : Int := if k < (if j < i then j else i) then k else (if j < i then j else i)
theorem nuMin2_int (i j : Int) : nuMin2 (.int i) (.int j) = some (.int (if j < i then j else i)) := by
  show some (if decide (j < i) = true then V.int j else V.int i) = _
  by_cases c : j < i
  · rw [if_pos (decide_eq_true c), if_pos c]
  · rw [if_neg (by rw [decide_eq_false c]; decide), if_neg c]
theorem nuMin3_int (i j k : Int) : nuMin3 (.int i) (.int j) (.int k) = some (.int (m3 i j k)) := by
  unfold nuMin3
  rw [nuMin2_int]
  exact nuMin2_int _ _
theorem rd_bests {ok : Addr → Prop} {H : Hp} {j N : Nat} {x : V} (h : Rd K ok H (j + 1) x (list3 (bestsF N))) : ∃ p vs, x = .ref p ∧ H p = some (.lst vs) ∧ ∀ n, n ≤ N → ∃ b us, vs[n]? = some (.ref b) ∧ H b = some (.lst us) ∧ ∀ r, r ≤ n → ∃ c ys, us[r]? = some (.ref c) ∧ H c = some (.lst ys) ∧ ∀ l, l < n - r → ys[l]? = some (.int (mostF n r l)) := by
  obtain ⟨p, vs, rfl, hp, hlen, _, all⟩ := rd_list3 h
  refine ⟨p, vs, rfl, hp, fun n hn => ?_⟩
  have e0 : (bestsF N)[n]? = some (bestRow n) := by
    unfold bestsF
    rw [List.getElem?_map, List.getElem?_range (by omega)]
    rfl
  have ln : n < vs.length := by rw [hlen]; exact (List.getElem?_eq_some_iff.mp e0).1
  obtain ⟨t, e1, r1⟩ := all n _ (List.getElem?_eq_getElem ln)
  rw [e0] at e1
  cases e1
  obtain ⟨b, us, e2, hb, hul, _, uall⟩ := rd_list2 r1
  refine ⟨b, us, by rw [List.getElem?_eq_getElem ln, e2], hb, fun r hr => ?_⟩
  have e3 : (bestRow n)[r]? = some ((List.range (n - r)).map fun l => mostF n r l) := by
    unfold bestRow
    rw [List.getElem?_map, List.getElem?_range (by omega)]
    rfl
  have lr : r < us.length := by rw [hul]; exact (List.getElem?_eq_some_iff.mp e3).1
  obtain ⟨c, t, e4, e5, hc⟩ := uall r _ (List.getElem?_eq_getElem lr)
  rw [e3] at e5
  cases e5
  refine ⟨c, _, by rw [List.getElem?_eq_getElem lr, e4], hc, fun l hl => ?_⟩
  rw [List.getElem?_map, List.getElem?_map, List.getElem?_range hl]
  rfl
def GoodR (ns : List Int) : Prop := ns.length ≤ 16 ∧ ∀ z ∈ ns, 1 ≤ z ∧ z ≤ 100000000000000000000000000000000000000000000000000
theorem but_fresh {H H' : Hp} {b f : Addr} {n m : Nat} (k : But b H H') (hb : BoxAt H b n) (hb2 : BoxAt H' b m) (h : H' f = none) : H f = none := by
  obtain ⟨o, ho⟩ := hb.some
  exact k.none ho h (hb2.ne h)
theorem box_ne {H : Hp} {b a : Addr} {n : Nat} (hb : BoxAt H b n) (h : H a = none) : a ≠ b := hb.ne h
def Fr (H : Hp) : Addr → Prop := fun a => H a = none

theorem dec0 (n : Nat) : decide (V.int (n : Int) = V.int 0) = decide (n = 0) := by
  by_cases c : n = 0
  · rw [c]; rfl
  · rw [decide_eq_false c]
    exact decide_eq_false fun e => c (by have := V.int.inj e; omega)
theorem betw_all {lo hi : Int} {ns : List Int} (h : ∀ z ∈ ns, lo ≤ z ∧ z ≤ hi) : (ns.map PyData.int).all (betwD lo hi) = true := by
  rw [List.all_eq_true]
  intro d hd
  obtain ⟨z, hz, rfl⟩ := List.mem_map.mp hd
  exact decide_eq_true (h z hz)
theorem row_list {ns : List Int} (g : GoodR ns) : rowD (.list (ns.map PyData.int)) = true := by
  unfold rowD
  rw [Bool.and_eq_true, Bool.and_eq_true]
  exact ⟨⟨rfl, decide_eq_true (by show (ns.map PyData.int).length ≤ 16; rw [List.length_map]; exact g.1)⟩, betw_all g.2⟩
theorem row_tup {ns : List Int} (g : GoodR ns) : rowD (.tuple (ns.map PyData.int)) = true := by
  unfold rowD
  rw [Bool.and_eq_true, Bool.and_eq_true]
  exact ⟨⟨rfl, decide_eq_true (by show (ns.map PyData.int).length ≤ 16; rw [List.length_map]; exact g.1)⟩, betw_all g.2⟩
theorem nums_map {ns : List Int} : (ns.map PyData.int).map intD = ns := by
  rw [List.map_map]
  have : intD ∘ PyData.int = id := rfl
  rw [this, List.map_id]
theorem rd_ilist {ok : Addr → Prop} {H : Hp} {a : Addr} {ns : List Int} (h : H a = some (.lst (ns.map V.int))) (o : ok a) (l : ns.length ≤ 900) : Rd K ok H 1 (.ref a) (.list (ns.map PyData.int)) :=
  have rd := rdl_ints (K := K) (ok := ok) (H := H) (n := 0) ns
  .lst h o rd.1 (by rw [List.length_map]; exact l) rd.2
theorem rd_ituple {ok : Addr → Prop} {H : Hp} {a : Addr} {ns : List Int} (h : SqT K H a (ns.map V.int)) (o : ok a) (l : ns.length ≤ 900) : Rd K ok H 1 (.ref a) (.tuple (ns.map PyData.int)) :=
  have rd := rdl_ints (K := K) (ok := ok) (H := H) (n := 0) ns
  .tup h o rd.1 (by rw [List.length_map]; exact l) rd.2
theorem betw_nat {m : Nat} (h : m ≤ 16) : betwD 0 16 (.int (m : Int)) = true := decide_eq_true ⟨by omega, by omega⟩
theorem rd_lst_at {ok : Addr → Prop} {H : Hp} {n : Nat} {p : Addr} {ds : List PyData} (h : Rd K ok H n (.ref p) (.list ds)) : ∃ xs, H p = some (.lst xs) ∧ ok p ∧ xs.length = ds.length ∧ xs.length ≤ 900 ∧ ∀ (i : Nat) (x : V) (d : PyData), xs[i]? = some x → ds[i]? = some d → Rd K ok H (n - 1) x d := by
  cases h with
  | lst h ha hl hz all => exact ⟨_, h, ha, hl, hz, all⟩
theorem ixN_int {n : Nat} {i : Int} (h0 : 0 ≤ i) (h : i < (n : Int)) : ixN n i = some i.toNat := by
  have := ixN_nat (n := n) (j := i.toNat) (by omega)
  rwa [show ((i.toNat : Nat) : Int) = i by omega] at this
theorem ne_of_none' {H : Hp} {a p : Addr} {o : HO} (h : H a = some o) (hp : H p = none) : p ≠ a := by rintro rfl; rw [h] at hp; cases hp
theorem nine_le : 9 ≤ sizeLine := by decide
theorem one_le : 1 ≤ sizeLine := by decide
theorem new_at {X : Hp} {p : Addr} {o : HO} (h : X p = none) : Ex X (upd X p o) ∧ upd X p o p = some o := ⟨Ex.new h, upd_same⟩
theorem ex_but {b : Addr} {H H' : Hp} (hb : H b = none) (k : But b H H') : Ex H H' := fun a o h => k a o (by rintro rfl; rw [hb] at h; cases h) h
theorem lc_rdL {σ : L2.St} {H : Hp} {ta : TA} {te : TE} {i j m : Nat} {vs : List Nat} {n : Int} {d : Nat → PyData} {rest : TS} {D : Ends} (h : EvA ta σ H [.int n]) (hn : 0 ≤ n ∧ n ≤ 900) (hw : ∀ x, wipe ((wipe σ vs).set j (some x)) vs = wipe σ vs)
    (he : ∀ (i : Nat) H1, Ex H H1 → (i : Int) < n → ∀ Q : VK, (∀ x H2, Ex H1 H2 → Rd K (fun a => H1 a = none) H2 m x (d i) → Q x H2) → te ((wipe σ vs).set j (some (.int (i : Int)))) H1 Q)
    (q : ∀ p H', Ex H H' → Rd K (fun a => H a = none) H' (m + 2) (.ref p) (.list [.list ((List.range n.toNat).map d)]) → rest D (σ.set i (some (.ref p))) H') : tSeq (tAsg (tLst (tCons (tLc (iRng1 ta) (gName j) tYes te vs) tNil)) (gName i)) rest D σ H :=
  lc_rd (K := K) (Q := fun v H1 => 1 ≤ sizeLine ∧ ∀ p, H1 p = none → rest D (σ.set i (some (.ref p))) (upd H1 p (.lst [v]))) h hn hw he fun p0 H1 e1 r1 => ⟨one_le, fun p hp => q p _ (e1.trans (Ex.new hp)) (by
    refine .lst upd_same (fresh_back e1 hp) rfl (by show 1 ≤ 900; omega) fun i x d hx hd => ?_
    match i, hx, hd with
    | 0, hx, hd => cases hx; cases hd; exact r1.ex (Ex.new hp))⟩
def sufs : List Int → List (List Int)
  | [] => [[]]
  | x :: ns => (x :: ns) :: sufs ns
theorem sufs_at : ∀ (ns : List Int) (k : Nat), k ≤ ns.length → (sufs ns)[k]? = some (ns.drop k)
  | [], 0, _ => rfl
  | x :: ns, 0, _ => rfl
  | x :: ns, k + 1, h => sufs_at ns k (Nat.le_of_succ_le_succ h)
theorem sufs_len : ∀ ns : List Int, (sufs ns).length = ns.length + 1
  | [] => rfl
  | x :: ns => congrArg (· + 1) (sufs_len ns)
def tablesD (N : Nat) (ns : List Int) : PyData := .list ((sufs ns).map fun ms => tabD N (tabF ms))
def spLTables (K : PySem.W.Frag) : Sp := fun vs H Q _ => ∃ (a b : Addr) (ns : List Int) (N j : Nat) (ok : Addr → Prop), vs = [.ref a, .ref b] ∧ SqL K H a (ns.map V.int) ∧ ns.length ≤ 100 ∧ N ≤ 16 ∧ Rd K ok H (j + 1) (.ref b) (list3 (bestsF N)) ∧
  ∀ q H', Ex H H' → Rd K (fun a => H a = none) H' 3 (.ref q) (tablesD N ns) → Q (.ref q) H'
end
end L2.U


set_option Elab.async false
set_option linter.all false
set_option maxRecDepth 100000
set_option maxHeartbeats 4000000
namespace L2.U
open PySem PySem.Spec PyProof.Rows Evl


section
variable {P : Program} {w : World} {K : PySem.W.Frag} {mg : Str → Option Value} {base : Heap}
theorem ok_law_tables (T : TK K mg) : FnOk P w K mg base CX0 2 T.law_tables.a T.law_tables.fd ["row", "bests"] (spLTables K) := by
  refine T.law_tables.F.ok sc_law_tables (fun vs H Q E h => ?_) (fun cdv A outer s H vs Q E hr h => ?_)
  · obtain ⟨a, b, ns, m, j, ok, rfl, _⟩ := h; rfl
  obtain ⟨a, b, ns, m, j, ok, rfl, ha, hl100, hm, hb, q⟩ := h
  refine ⟨_, (pss_cons (ps_set (i := 2) sc_law_tables.nd rfl (Or.inr rfl) (pe_op op_sub (pe_callB (klen K) (by rfl) T.z_len (by decide +kernel) (pa_cons (pv 1) pa_nil)) pe_int))
    (pss_cons (ps_set (i := 4) sc_law_tables.nd rfl (Or.inl rfl) (pe_lst (pa_cons (pe_lc (own := [("n", 3)]) (g := gName 3) (by rfl) sc_law_tables.nd (pi_range1 rfl T.z_range (pa_cons (pe_op op_add (pv 2) pe_int) pa_nil)) (blkOk_by (own := [("n", 3)]) (N := ["row", "bests", "most", "n", "tables", "number", "ahead", "lefts", "here", "line", "a", "ways", "r"]) (sc := defScope s_law_tables) (by decide +kernel)) (fun _ _ _ _ _ => (pg_name (i := 3) sc_law_tables.nd rfl (Or.inl rfl))) (fun _ _ _ _ _ => pts_nil) (fun _ _ _ _ _ => (pe_op op_rep (pe_lst (pa_cons pe_bl pa_nil)) (pe_op op_add (pv 2) pe_int)))) pa_nil)))
    (pss_cons (ps_for PassesOwn.never rfl (kpil K (pe_revL (pv 0))) (pg_name (i := 5) sc_law_tables.nd rfl (Or.inl rfl)) (pss_cons (ps_asg (pe_tup (pa_cons (pe_ix (kixl K) (pv 4) pe_int (fun _ _ => rfl)) (pa_cons (pe_call (ok_law_lefts T) (hr.mono (by decide)) rfl T.law_lefts.m T.law_lefts.F.kp T.law_lefts.b .nil pass0 (pa_cons (pv 5) (pa_cons (pv 1) pa_nil))) (pa_cons (pe_lst pa_nil) pa_nil)))) (pg_tup (by rfl) (pgs_cons (pg_name (i := 6) sc_law_tables.nd rfl (Or.inr rfl)) (pgs_cons (pg_name (i := 7) sc_law_tables.nd rfl (Or.inr rfl)) (pgs_cons (pg_name (i := 8) sc_law_tables.nd rfl (Or.inl rfl)) pgs_nil)))))
    (pss_cons (ps_for PassesOwn.never rfl (pi_range1 rfl T.z_range (pa_cons (pe_op op_add (pv 2) pe_int) pa_nil)) (pg_name (i := 3) sc_law_tables.nd rfl (Or.inr rfl)) (pss_cons (ps_set (i := 9) sc_law_tables.nd rfl (Or.inl rfl) (pe_lst pa_nil))
    (pss_cons (ps_for PassesOwn.never rfl (pi_range1 rfl T.z_range (pa_cons (pe_op op_add (pv 2) pe_int) pa_nil)) (pg_name (i := 10) sc_law_tables.nd rfl (Or.inr rfl)) (pss_cons (ps_setLc (i := 11) (own := [("r", 12)]) (g := gName 12) (by rfl) sc_law_tables.nd rfl rfl (sw_true rfl rfl rfl (by decide +kernel)) (pi_range1 rfl T.z_range (pa_cons (pe_op op_add (pe_callB (call_min2 rfl) (by rfl) T.z_min (by decide +kernel) (pa_cons (pv 10) (pa_cons (pv 3) pa_nil))) pe_int) pa_nil)) (blkOk_by (own := [("r", 12)]) (N := ["row", "bests", "most", "n", "tables", "number", "ahead", "lefts", "here", "line", "a", "ways", "r"]) (sc := defScope s_law_tables) (by decide +kernel)) (fun _ _ _ _ _ => (pg_name (i := 12) sc_law_tables.nd rfl (Or.inl rfl))) (fun _ _ _ _ _ => (pts_one (PW.pt (pw_and (pt_cmpR op_ge (pe_ix (kixl K) (pe_ix (kixl K) (pv 7) (pv 3) (fun _ _ => rfl)) (pv 12) (fun _ _ => rfl)) pe_int (nomark _)) (pw_and1 (pt_val (pe_ix (kixl K) (pe_ix (kixl K) (pv 6) (pe_op op_sub (pv 10) (pv 12)) (fun _ _ => rfl)) (pe_ix (kixl K) (pe_ix (kixl K) (pv 7) (pv 3) (fun _ _ => rfl)) (pv 12) (fun _ _ => rfl)) (fun _ _ => rfl)))))))) (fun _ _ _ _ _ => (pv 12)))
    (pss_one (ps_expr (pe_bm PySem.F.plainAttrs_list PySem.F.slot_list_append PySem.F.type_list_append mt_append (pv 9) (pa_cons (pe_cmpR (kneD K hr.units) (pv 11) (pe_lst pa_nil) (nomark _)) pa_nil))))))
    (pss_one (ps_expr (pe_bm PySem.F.plainAttrs_list PySem.F.slot_list_append PySem.F.type_list_append mt_append (pv 8) (pa_cons (pv 9) pa_nil)))))))
    (pss_one (ps_set (i := 4) sc_law_tables.nd rfl (Or.inl rfl) (pe_op op_cat (pe_lst (pa_cons (pv 8) pa_nil)) (pv 4)))))))
    (pss_one (ps_ret (pv 4)))))), ?_⟩
  obtain ⟨b0, bs0, hbe0, hbs0, hblen0, _, _⟩ := rd_list3 hb
  cases hbe0
  have bl0 : (bs0.length : Int) - 1 = (m : Int) := by rw [hblen0]; unfold bestsF; rw [List.length_map, List.length_range]; omega
  refine ev_seq (i := 2) (v := .int (m : Int)) (fun H1 e1 Q q => ⟨_, rfl, _, _, rfl, .inl ⟨_, ex_l e1 (SqL.of hbs0), rfl⟩, _, _, rfl, rfl, by
    show Q (.int ((bs0.length : Int) - 1)) H1
    rw [bl0]
    exact q _ (Ex.refl _)⟩) fun H es => ?_
  have hb := hb.ex es
  have ha := ex_l es ha
  have q : ∀ q' H', Ex H H' → Rd K (fun a => H a = none) H' 3 (.ref q') (tablesD m ns) → Q (.ref q') H' := fun q' H' e r => q q' H' (es.trans e) (r.of fun a h => fresh_back es h)
  refine lc_rdL (K := K) (i := 4) (σ := [some (.ref a), some (.ref b), some (.int (m : Int)), none, none, none, none, none, none, none, none, none, none]) (vs := [3]) (m := 1) (d := fun _ => rowB m fun _ => true) (ea_cons (ev_op (ev_var rfl) ev_c rv_I0) ea_nil) ⟨by omega, by omega⟩ (fun _ => rfl) (fun k H1 e1 hk Q1 q1 => ?_) (fun p0 H0 e0 r0 => ?_)
  · refine ⟨(by show 1 ≤ sizeLine; decide), fun p1 hp1 => ⟨_, rfl, _, _, rfl, rfl, p1, (m : Int) + 1, [.bl true], rfl, rfl, upd_same, by omega, by omega, Nat.le_of_lt (small1000 (by show 1 * _ ≤ 1000; omega)), fun z hz => q1 _ _ ((Ex.new hp1).trans (Ex.new hz)) ?_⟩⟩
    have rl : (List.replicate ((m : Int) + 1).toNat [V.bl true]).flatten = (List.range (m + 1)).map fun _ => V.bl true := by
      rw [rep_one, show ((m : Int) + 1).toNat = m + 1 by omega, List.map_const', List.length_range]
    unfold rowB
    refine .lst (by rw [upd_same, rl]) (fresh_back (Ex.new hp1) hz) (by rw [List.length_map, List.length_map]) (by rw [List.length_map, List.length_range]; omega) fun i x d hx hd => ?_
    rw [List.getElem?_map] at hx hd
    obtain ⟨y, hy, rfl⟩ := Option.map_eq_some_iff.mp hx
    rw [hy] at hd
    cases hd
    exact .bl _
  have r0' : Rd K (fun a => H a = none) H0 3 (.ref p0) (tablesD m []) := by
    rw [show ((m : Int) + 1).toNat = m + 1 by omega] at r0
    exact r0
  refine ⟨_, rfl, a, _, rfl, ex_l e0 ha, fun rv hrv => ?_⟩
  have ev := Ex.new (o := .lst (ns.map V.int).reverse) hrv
  have rvs : upd H0 rv (.lst (ns.map V.int).reverse) rv = some (.lst (ns.map V.int).reverse) := upd_same
  generalize upd H0 rv (.lst (ns.map V.int).reverse) = H1 at ev rvs ⊢
  have e01 := e0.trans ev
  refine ⟨rv, rfl, ⟨_, SqL.of rvs⟩, for_list (xs := (ns.map V.int).reverse) (fun i σ H' => Ex H1 H' ∧ ∃ (tp : Addr) (v3 v5 v6 v7 v8 v9 v10 v11 : Option V), Rd K (fun a => H a = none) H' 3 (.ref tp) (tablesD m (ns.reverse.take i).reverse) ∧ σ = [some (.ref a), some (.ref b), some (.int (m : Int)), v3, some (.ref tp), v5, v6, v7, v8, v9, v10, v11, none])
    ⟨Ex.refl _, p0, _, _, _, _, _, _, _, _, r0'.ex ev, rfl⟩ (fun i σ H' _ p => ex_l p.1 (SqL.of rvs)) ?_ ?_⟩
  · rintro i v σ H' hx ⟨e, tp, v3, v5, v6, v7, v8, v9, v10, v11, rt, rfl⟩
    have hi1 := (List.getElem?_eq_some_iff.mp hx).1
    rw [← List.map_reverse] at hx
    obtain ⟨x, hx1, rfl⟩ := ints_get hx
    have et : (ns.reverse.take (i + 1)).reverse = x :: (ns.reverse.take i).reverse := by
      rw [List.take_add_one, hx1, List.reverse_append]
      rfl
    have lms : ((ns.reverse.take i).reverse).length ≤ 100 := by rw [List.length_reverse, List.length_take, List.length_reverse]; omega
    rw [et]
    generalize (ns.reverse.take i).reverse = ms at rt lms ⊢
    have eh := e01.trans e
    obtain ⟨txs, htp, tpok, txl, _, tall⟩ := rd_lst_at rt
    rw [List.length_map, sufs_len] at txl
    have hd0 : ((sufs ms).map fun ms => tabD m (tabF ms))[0]? = some (tabD m (tabF ms)) := by
      rw [List.getElem?_map, sufs_at ms 0 (Nat.zero_le _)]
      rfl
    have hx0 := List.getElem?_eq_getElem (show 0 < txs.length by omega)
    have rp0 := tall 0 _ _ hx0 hd0
    obtain ⟨p, ps, hpe, hps0, _⟩ := rd_tab rp0
    rw [hpe] at hx0 rp0
    refine ⟨_, rfl, tp, txs, 0, .ref p, rfl, rfl, SqL.of htp, at_of (show (0 : Int) = ((0 : Nat) : Int) from rfl) hx0, ?_⟩
    refine ⟨_, rfl, _, rfl, x, _, bestsF m, _, _, rfl, hb.ex eh, by unfold bestsF; rw [List.length_map, List.length_range]; omega, fun r hr => ?_, fun l H3 e3 rl => ?_⟩
    · unfold bestsF at hr
      obtain ⟨n, hn, rfl⟩ := List.mem_map.mp hr
      have hn := List.mem_range.mp hn
      unfold bestRow
      refine ⟨by rw [List.length_map, List.length_range]; omega, fun o ho => ?_⟩
      obtain ⟨r, hr, rfl⟩ := List.mem_map.mp ho
      rw [List.length_map, List.length_range]
      omega
    have eG : Ex H1 H3 := e.trans e3
    obtain ⟨l', ls, hle, hls, lall⟩ := rd_lefts rl
    cases hle
    have rp3 := rp0.ex e3
    obtain ⟨p', ps, hpe, hps, pall⟩ := rd_tab rp3
    cases hpe
    obtain ⟨Tn, hTn⟩ : ∃ Tn, Tn = tabF (x :: ms) := ⟨_, rfl⟩
    refine ⟨Nat.zero_le _, fun F hF => ⟨three_le, fun t ht => ⟨t, _, rfl, SqT.of upd_same, rfl, _, _, rfl, _, _, rfl, _, _, rfl, rfl, ?_⟩⟩⟩
    have eF : Ex H3 (upd (upd H3 F (.lst [])) t (.tup [.ref p, .ref l, .ref F])) := (Ex.new hF).trans (Ex.new ht)
    have hFt : upd (upd H3 F (.lst [])) t (.tup [.ref p, .ref l, .ref F]) F = some (.lst []) := (Ex.new ht) _ _ upd_same
    generalize upd (upd H3 F (.lst [])) t (.tup [.ref p, .ref l, .ref F]) = H4 at eF hFt ⊢
    refine ⟨_, rfl, _, _, rfl, rfl, (m : Int) + 1, rfl, by omega, by omega, for_range (lo := 0) (n := ((m : Int) + 1).toNat) (fun n σ H' => Ex H3 H' ∧ ∃ (xs : List V) (v3 v9 v10 v11 : Option V), H' F = some (.lst xs) ∧ xs.length = n ∧ RdL K (fun a => H3 a = none ∧ a ≠ F) H' 1 xs ((List.range n).map fun n => rowB m (Tn n)) ∧ σ = [some (.ref a), some (.ref b), some (.int (m : Int)), v3, some (.ref tp), some (.int x), some (.ref p), some (.ref l), some (.ref F), v9, v10, v11, none])
      ⟨eF, [], _, _, _, _, hFt, rfl, ⟨rfl, fun i x d hx _ => by cases hx⟩, rfl⟩ ?_ ?_⟩
    · rintro n σ G hn ⟨eg, xs, v3, v9, v10, v11, hFG, hlx, rlx, rfl⟩
      rw [Int.zero_add]
      have hn' : n ≤ m := by omega
      obtain ⟨lb, lys, hlb, hlys, lval⟩ := lall n hn'
      refine ⟨Nat.zero_le _, fun L hL => ⟨_, rfl, _, _, rfl, rfl, (m : Int) + 1, rfl, by omega, by omega, for_range (lo := 0) (n := ((m : Int) + 1).toNat) (fun a' σ H' => Ex G H' ∧ ∃ (v10 v11 : Option V), H' L = some (.lst ((List.range a').map fun a => V.bl (Tn n a))) ∧ σ = [some (.ref a), some (.ref b), some (.int (m : Int)), some (.int (n : Int)), some (.ref tp), some (.int x), some (.ref p), some (.ref l), some (.ref F), some (.ref L), v10, v11, none])
        ⟨Ex.new hL, _, _, upd_same, rfl⟩ ?_ ?_⟩⟩
      · rintro a' σ G1 ha' ⟨eg1, v10, v11, hLG, rfl⟩
        rw [Int.zero_add]
        have ha2 : a' ≤ m := by omega
        have ex3 : Ex H3 G1 := eg.trans eg1
        have la : ∀ (v11' : Option V) (r : Nat) (G2 : Hp), Ex G1 G2 → r ≤ n → Ev (tOp (rIxL K) (tOp (rIxL K) (tVar 7) (tVar 3)) (tVar 12)) [some (.ref a), some (.ref b), some (.int (m : Int)), some (.int (n : Int)), some (.ref tp), some (.int x), some (.ref p), some (.ref l), some (.ref F), some (.ref L), some (.int (a' : Int)), v11', some (.int (r : Int))] G2 (.int (Lf x n r)) := fun v11' r G2 eg2 hr2 =>
          ev_op (ev_op (ev_var rfl) (ev_var rfl) (rv_ixL (SqL.of (eg2 _ _ (ex3 _ _ hls))) (atI_nat hlb))) (ev_var rfl) (rv_ixL (SqL.of (eg2 _ _ (ex3 _ _ hlys))) (atI_nat (lval r hr2)))
        have c1 := el_lcR1 (σ := [some (.ref a), some (.ref b), some (.int (m : Int)), some (.int (n : Int)), some (.ref tp), some (.int x), some (.ref p), some (.ref l), some (.ref F), some (.ref L), some (.int (a' : Int)), v11, none]) (H := G1)
          (ta := tCons (tOp (rI0 fun i j => V.int (i + j)) (tCB (fun xs H Q => ∃ i j, xs = [V.int i, V.int j] ∧ Q (V.int (if j < i then j else i)) H) (tCons (tVar 10) (tCons (tVar 3) tNil))) (tC (V.int 1))) tNil)
          (t := tAnd (tTest (tOp (rI0 fun i j => V.bl (decide (j ≤ i))) (tOp (rIxL K) (tOp (rIxL K) (tVar 7) (tVar 3)) (tVar 12)) (tC (V.int 0)))) (tB (tOp (rIxL K) (tOp (rIxL K) (tVar 6) (tOp (rI0 fun i j => V.int (i - j)) (tVar 10) (tVar 12))) (tOp (rIxL K) (tOp (rIxL K) (tVar 7) (tVar 3)) (tVar 12)))))
          (te := tVar 12) (j := 12) (vs := [12]) (n := (if (n : Int) < (a' : Int) then (n : Int) else (a' : Int)) + 1) (fun r => decide (0 ≤ Lf x n r) && tabF ms (a' - r) (Lf x n r).toNat) (fun r => .int (r : Int))
          (fun H2 e2 Q q => ⟨_, rfl, _, rfl, _, _, rfl, _, _, rfl, rfl, q _ (Ex.refl _)⟩) ⟨by split <;> omega, by split <;> omega⟩ (fun _ => rfl)
          (fun r G2 eg2 hr2 => ?_) (fun r G2 eg2 hr2 _ => ev_var rfl)
        · rw [given_ints] at c1
          have cnt : ((if (n : Int) < (a' : Int) then (n : Int) else (a' : Int)) + 1).toNat = (if n < a' then n else a') + 1 := by
            split <;> split <;> omega
          rw [cnt] at c1
          refine gn_ (el_seq (i := 11) c1 fun w G2 hw eg2 hwv => ?_)
          refine ⟨_, rfl, .inl ⟨rfl, _, SqL.of (eg2 _ _ hLG)⟩, _, rfl, Nat.zero_le _, fun z hz => ?_⟩
          have eg3 := Ex.new (o := .lst []) hz
          have rdi := rdl_ints (K := K) (ok := fun _ => True) (H := upd G2 z (.lst [])) (n := 0) (((List.range ((if n < a' then n else a') + 1)).filter fun r => decide (0 ≤ Lf x n r) && tabF ms (a' - r) (Lf x n r).toNat).map fun l : Nat => (l : Int))
          have fl := List.length_filter_le (fun r => decide (0 ≤ Lf x n r) && tabF ms (a' - r) (Lf x n r).toNat) (List.range ((if n < a' then n else a') + 1))
          rw [List.length_range] at fl
          have fl2 : (if n < a' then n else a') + 1 ≤ 100 := by split <;> omega
          have rdw : Rd K (fun _ => True) (upd G2 z (.lst [])) 1 (.ref w) _ := .lst (eg3 _ _ hwv) trivial rdi.1 (by rw [List.length_map, List.length_map]; omega) rdi.2
          have rde : Rd K (fun _ => True) (upd G2 z (.lst [])) 1 (.ref z) (.list []) := .lst upd_same trivial rfl (Nat.zero_le _) (fun i x d hx _ => by cases hx)
          refine ⟨_, _, rdw.dp, rde.dp, rdw.shaped (by omega), rde.shaped (by omega), L, _, _, rfl, rfl, eg3 _ _ (eg2 _ _ hLG), small1000 (by rw [List.length_map, List.length_range]; omega), ?_⟩
          refine ⟨((eg1.trans eg2).trans eg3).mut hL, _, _, ?_, rfl⟩
          rw [upd_same, any_ne, List.range_succ (n := a'), List.map_append, hTn]
          rfl
        · refine et_and (et_test (ev_op (la v11 r G2 eg2 (by split at hr2 <;> omega)) ev_c rv_I0)) fun hd => et_B ?_
          have hd := of_decide_eq_true hd
          have lt := Lf_lt hd
          obtain ⟨pb, pys, hpb, hpys, pval⟩ := pall (a' - r) (by omega)
          have r1 : r ≤ a' ∧ r ≤ n := by split at hr2 <;> omega
          exact ev_op (ev_op (ev_var rfl) (ev_op (ev_var rfl) (ev_var rfl) rv_I0) (rv_ixL (SqL.of (eg2 _ _ (ex3 _ _ hps))) (at_of (show (a' : Int) - (r : Int) = ((a' - r : Nat) : Int) by omega) hpb))) (la v11 r G2 eg2 r1.2) (rv_ixL (SqL.of (eg2 _ _ (ex3 _ _ hpys))) (at_of (show Lf x n r = ((Lf x n r).toNat : Int) by omega) (pval _ (by omega))))
      · rintro σ G1 ⟨eg1, v10, v11, hLG, rfl⟩
        have LF : L ≠ F := by rintro rfl; rw [hFG] at hL; cases hL
        refine ⟨_, rfl, .inl ⟨rfl, _, SqL.of (eg1 _ _ hFG)⟩, _, rfl, F, xs, .ref L, rfl, rfl, eg1 _ _ hFG, small1000 (by omega), (eg.trans eg1).mut hF, xs ++ [.ref L], _, _, _, _, upd_same, by rw [List.length_append, hlx]; rfl, ?_, rfl⟩
        rw [List.range_succ, List.map_append]
        refine RdL.snoc ((rlx.ex eg1).but (b := F) But.upd (fun a ha => ha.2)) ?_
        unfold rowB
        rw [show ((m : Int) + 1).toNat = m + 1 by omega] at hLG
        refine .lst (by rw [upd_ne LF]; exact hLG) ⟨fresh_back eg hL, LF⟩ (by rw [List.length_map, List.length_map]) (by rw [List.length_map, List.length_range]; omega) fun i x d hx hd => ?_
        rw [List.getElem?_map] at hx hd
        obtain ⟨y, hy, rfl⟩ := Option.map_eq_some_iff.mp hx
        rw [hy] at hd
        cases hd
        exact .bl _
    · rintro σ G ⟨eg, xs, v3, v9, v10, v11, hFG, hlx, rlx, rfl⟩
      rw [show ((m : Int) + 1).toNat = m + 1 by omega] at hlx rlx
      have e3G := e3.trans eg
      have htpG := e3G _ _ htp
      refine ⟨_, rfl, one_le, fun o ho => ?_⟩
      have eo := Ex.new (o := .lst [.ref F]) ho
      refine ⟨_, rfl, o, tp, _, _, rfl, rfl, upd_same, eo _ _ htpG, Nat.le_of_lt (small1000 (by show 1 + _ ≤ 1000; omega)), fun np hnp => ?_⟩
      have en := Ex.new (o := .lst ([.ref F] ++ txs)) hnp
      have rF : Rd K (fun a => H a = none) G 2 (.ref F) (tabD m (tabF (x :: ms))) := by
        rw [← hTn]
        exact .lst hFG (fresh_back (e01.trans eG) hF) rlx.1 (by omega) fun i x d hx hd => (rlx.2 i x d hx hd).of fun a ha => fresh_back (e01.trans eG) ha.1
      have fr0 : ∀ a, upd G o (.lst [.ref F]) a = none → H a = none := fun a ha => fresh_back (((e01.trans eG).trans eg).trans eo) ha
      refine ⟨((eG.trans eg).trans eo).trans en, np, _, _, _, _, _, _, _, _, .lst upd_same (fr0 np hnp) (by rw [List.length_append, List.length_map, sufs_len, txl]; show 1 + _ = _ + 1 + 1; omega) (by rw [List.length_append]; show 1 + _ ≤ 900; omega) fun i y d hy hd => ?_, rfl⟩
      cases i with
      | zero =>
        cases hy
        cases hd
        exact (rF.ex eo).ex en
      | succ i => exact (((tall i y d hy hd).ex e3G).ex eo).ex en
  · rintro σ H' ⟨e, tp, v3, v5, v6, v7, v8, v9, v10, v11, rt, rfl⟩
    rw [List.length_reverse, List.length_map, ← List.length_reverse, List.take_length, List.reverse_reverse] at rt
    exact ⟨_, rfl, q tp H' (e01.trans e) rt⟩
end
end L2.U


set_option Elab.async false
set_option linter.all false
set_option maxRecDepth 100000
set_option maxHeartbeats 4000000
namespace L2.U
open PySem PySem.Spec PyProof.Rows Evl


section
variable {P : Program} {w : World} {K : PySem.W.Frag} {mg : Str → Option Value} {base : Heap}
/-! ### what is due -/
theorem sufs_cons (x : Int) (ns : List Int) : sufs (x :: ns) = (x :: ns) :: sufs ns := rfl
theorem stairsM_sufs (m : Nat) : ∀ ns : List Int, stairsM m ns = (sufs ns).map (topS m)
  | [] => rfl
  | x :: ns => by
    rw [sufs_cons, List.map_cons, ← stairsM_sufs m ns]
    rfl
def firstO (f : Nat → Bool) (m : Nat) : Option Int := (((List.range m).filter f).head?).map fun a : Nat => (a : Int)
theorem due_item {N : Nat} (hN : N ≤ 16) (ns : List Int) {n : Nat} (hn : n ≤ N) : (topS N ns)[n]? = some (firstO (tabF ns n) (N + 1)) := by
  obtain ⟨sl, st⟩ := top_stands hN ns
  have hx := List.getElem?_eq_getElem (show n < (topS N ns).length by omega)
  obtain ⟨s1, s2⟩ := st n _ hx
  rw [hx]
  generalize (topS N ns)[n] = o at s1 s2 ⊢
  congr 1
  unfold firstO
  rw [List.head?_filter]
  cases o with
  | none =>
    have : (List.range (N + 1)).find? (tabF ns n) = none := List.find?_eq_none.mpr fun a ha c => by
      have := List.mem_range.mp ha
      obtain ⟨l, hl, _⟩ := (s2 a (by omega)).mp ((tab_can hN ns n a hn (by omega)).mp c)
      cases hl
    rw [this]
    rfl
  | some l =>
    obtain ⟨l0, l1⟩ := s1 l rfl
    obtain ⟨k, rfl⟩ : ∃ k : Nat, l = (k : Int) := ⟨l.toNat, by omega⟩
    have : (List.range (N + 1)).find? (tabF ns n) = some k := by
      rw [List.find?_range_eq_some]
      refine ⟨(tab_can hN ns n k hn (by omega)).mpr ((s2 k (by omega)).mpr ⟨_, rfl, Int.le_refl _⟩), List.mem_range.mpr (by omega), fun j hj => ?_⟩
      cases c : tabF ns n j with
      | false => rfl
      | true =>
        obtain ⟨l, hl, hj2⟩ := (s2 j (by omega)).mp ((tab_can hN ns n j hn (by omega)).mp c)
        cases Option.some.inj hl
        omega
    rw [this]
    rfl
def nats (l : List Nat) : List Int := l.map fun a : Nat => (a : Int)
theorem ev_first {σ : L2.St} {H : Hp} {k : Nat} {a : Addr} {l : List Nat} (hk : σ[k]? = some (some (.ref a))) (ha : H a = some (.lst ((nats l).map V.int))) (hl : l.length ≤ 900) :
    Ev (tIf (tTest (tOp (rNeD K) (tVar k) (tLst tNil))) (tOp (rIxL K) (tVar k) (tC (V.int 0))) (tC V.non)) σ H (optV (l.head?.map fun a : Nat => (a : Int))) := by
  have t : EvT (tTest (tOp (rNeD K) (tVar k) (tLst tNil))) σ H (!decide (l = [])) := by
    refine et_test (ev_opL (ev_var hk) (el_lst ea_nil (Nat.zero_le _)) fun p H1 hp e1 H2 e2 Q q => ?_)
    have r1 := rd_ilist (K := K) (ok := fun _ => True) (e2 _ _ (e1 _ _ ha)) trivial (by unfold nats; rw [List.length_map]; exact hl)
    have r2 : Rd K (fun _ => True) H2 1 (.ref p) (.list []) := .lst (e2 _ _ hp) trivial rfl (Nat.zero_le _) (fun i x d hx _ => by cases hx)
    refine ⟨_, _, r1.dp, r2.dp, r1.shaped (by omega), r2.shaped (by omega), ?_⟩
    have : PyData.eqv (.list ((nats l).map PyData.int)) (.list []) = decide (l = []) := by cases l <;> rfl
    rw [this]
    exact q H2 (Ex.refl _)
  cases l with
  | nil => exact ev_if t (fun z => by cases z) fun _ => ev_c
  | cons x l => exact ev_if t (fun _ => ev_op (ev_var hk) ev_c (rv_ixL (SqL.of ha) (at_of (show (0 : Int) = ((0 : Nat) : Int) from rfl) rfl))) fun z => by cases z
def spLDue (K : PySem.W.Frag) : Sp := fun vs H Q _ => ∃ (a b : Addr) (ns : List Int) (N j : Nat) (ok : Addr → Prop), vs = [.ref a, .ref b] ∧ SqL K H a (ns.map V.int) ∧ ns.length ≤ 100 ∧ N ≤ 16 ∧ Rd K ok H (j + 1) (.ref b) (list3 (bestsF N)) ∧
  ∀ q H', Ex H H' → Rd K (fun a => H a = none) H' 2 (.ref q) (linesP (stairsM N ns)) → Q (.ref q) H'
theorem ok_law_due (T : TK K mg) : FnOk P w K mg base CX0 3 T.law_due.a T.law_due.fd ["row", "bests"] (spLDue K) := by
  refine T.law_due.F.ok sc_law_due (fun vs H Q E h => ?_) (fun cdv A outer s H vs Q E hr h => ?_)
  · obtain ⟨a, b, ns, m, j, ok, rfl, _⟩ := h; rfl
  obtain ⟨a, b, ns, N, j, ok, rfl, ha, hl100, hN, hb, q⟩ := h
  refine ⟨_, (pss_cons (ps_set (i := 2) sc_law_due.nd rfl (Or.inl rfl) (pe_lst pa_nil))
    (pss_cons (ps_for PassesOwn.never rfl (kpil K (pe_call (ok_law_tables T) (hr.mono (by decide)) rfl T.law_tables.m T.law_tables.F.kp T.law_tables.b .nil pass0 (pa_cons (pv 0) (pa_cons (pv 1) pa_nil)))) (pg_name (i := 3) sc_law_due.nd rfl (Or.inr rfl)) (pss_cons (ps_set (i := 4) sc_law_due.nd rfl (Or.inl rfl) (pe_lst pa_nil))
    (pss_cons (ps_for PassesOwn.never rfl (pi_range1 rfl T.z_range (pa_cons (pe_callB (klen K) (by rfl) T.z_len (by decide +kernel) (pa_cons (pv 1) pa_nil)) pa_nil)) (pg_name (i := 5) sc_law_due.nd rfl (Or.inr rfl)) (pss_cons (ps_setLc (i := 6) (own := [("a", 7)]) (g := gName 7) (by rfl) sc_law_due.nd rfl rfl (sw_true rfl rfl rfl (by decide +kernel)) (pi_range1 rfl T.z_range (pa_cons (pe_callB (klen K) (by rfl) T.z_len (by decide +kernel) (pa_cons (pv 1) pa_nil)) pa_nil)) (blkOk_by (own := [("a", 7)]) (N := ["row", "bests", "found", "table", "line", "n", "enough", "a"]) (sc := defScope s_law_due) (by decide +kernel)) (fun _ _ _ _ _ => (pg_name (i := 7) sc_law_due.nd rfl (Or.inl rfl))) (fun _ _ _ _ _ => (pts_one (pt_val (pe_ix (kixl K) (pe_ix (kixl K) (pv 3) (pv 5) (fun _ _ => rfl)) (pv 7) (fun _ _ => rfl))))) (fun _ _ _ _ _ => (pv 7)))
    (pss_one (ps_expr (pe_bm PySem.F.plainAttrs_list PySem.F.slot_list_append PySem.F.type_list_append mt_append (pv 4) (pa_cons (pe_ifExp (pt_cmpR (kneD K hr.units) (pv 6) (pe_lst pa_nil) (nomark _)) (pe_ix (kixl K) (pv 6) pe_int (fun _ _ => rfl)) pe_non) pa_nil))))))
    (pss_one (ps_expr (pe_bm PySem.F.plainAttrs_list PySem.F.slot_list_append PySem.F.type_list_append mt_append (pv 2) (pa_cons (pv 4) pa_nil)))))))
    (pss_one (ps_ret (pv 2))))), ?_⟩
  obtain ⟨b0, bs, hbe, hbs, hblen, _, _⟩ := rd_list3 hb
  cases hbe
  have bl : (bs.length : Int) = (N : Int) + 1 := by rw [hblen]; unfold bestsF; rw [List.length_map, List.length_range]; omega
  refine el_seq (xs := []) (el_lst ea_nil (Nat.zero_le _)) fun F H1 hF e1 hF1 => ?_
  refine ⟨_, rfl, _, rfl, a, b, ns, N, j, ok, rfl, ex_l e1 ha, hl100, hN, hb.ex e1, fun tp H2 e2 rt => ?_⟩
  obtain ⟨txs, htp, tpok, txl, _, tall⟩ := rd_lst_at rt
  rw [List.length_map, sufs_len] at txl
  have e12 := e1.trans e2
  have tF : tp ≠ F := fun z => by rw [z, hF1] at tpok; cases tpok
  have okF : ∀ a, H1 a = none → a ≠ F := fun a ha z => by rw [z, hF1] at ha; cases ha
  have len : ∀ σ G, σ[1]? = some (some (V.ref b)) → SqL K G b bs → Ev (tCB (rLen K) (tCons (tVar 1) tNil)) σ G (.int ((N : Int) + 1)) := fun σ G h hg G1 eg Q q => ⟨_, h, _, _, rfl, .inl ⟨_, ex_l eg hg, rfl⟩, by rw [bl]; exact q G1 (Ex.refl _)⟩
  refine ⟨tp, rfl, ⟨_, SqL.of htp⟩, for_list (xs := txs) (fun i σ H' => But F H2 H' ∧ Ex H H' ∧ ∃ (xs : List V) (v3 v4 v5 v6 : Option V), H' F = some (.lst xs) ∧ xs.length = i ∧ RdL K (fun a => H a = none ∧ a ≠ F) H' 1 xs (((sufs ns).take i).map fun ms => lineP (topS N ms)) ∧ σ = [some (.ref a), some (.ref b), some (.ref F), v3, v4, v5, v6, none])
    ⟨But.of (Ex.refl _), e12, [], _, _, _, _, e2 _ _ hF1, rfl, ⟨rfl, fun i x d hx _ => by cases hx⟩, rfl⟩ (fun i σ H' _ p => SqL.of (p.1 _ _ tF htp)) ?_ ?_⟩
  · rintro i v σ H' hi ⟨bf, eh, xs, v3, v4, v5, v6, hFx, hlx, rlx, rfl⟩
    have hi1 := (List.getElem?_eq_some_iff.mp hi).1
    have hms := sufs_at ns i (by omega)
    have rv := (tall i v _ hi (by rw [List.getElem?_map, hms]; rfl)).but bf okF
    obtain ⟨ms, hmse⟩ : ∃ ms, ms = ns.drop i := ⟨_, rfl⟩
    rw [← hmse] at rv hms
    obtain ⟨p, ps, rfl, hps, pall⟩ := rd_tab rv
    have hbs' := SqL.of (K := K) (eh _ _ hbs)
    refine gn_ ?_
    refine el_seq (xs := []) (el_lst ea_nil (Nat.zero_le _)) fun L G hL eg hG => ?_
    have hitem : ((List.range (N + 1)).map fun n => optV (firstO (tabF ms n) (N + 1))) = (topS N ms).map optV := by
      have hl : (topS N ms).length = N + 1 := (top_stands hN ms).1
      apply List.ext_getElem?
      intro k
      by_cases hk : k < N + 1
      · rw [List.getElem?_map, List.getElem?_range hk, List.getElem?_map, due_item hN ms (by omega)]
        rfl
      · rw [List.getElem?_eq_none (by rw [List.length_map, List.length_range]; omega), List.getElem?_eq_none (by rw [List.length_map]; omega)]
    refine len _ _ rfl (ex_l eg hbs') G (Ex.refl _) _ fun G0 eg0 => ⟨(N : Int) + 1, rfl, by omega, by omega, for_range (lo := 0) (n := ((N : Int) + 1).toNat) (fun n σ G' => Ex H' G' ∧ ∃ (v5 v6 : Option V), G' L = some (.lst ((List.range n).map fun n => optV (firstO (tabF ms n) (N + 1)))) ∧ σ = [some (.ref a), some (.ref b), some (.ref F), some (.ref p), some (.ref L), v5, v6, none])
      ⟨eg.trans eg0, _, _, eg0 _ _ hG, rfl⟩ ?_ ?_⟩
    · rintro n σ G1 hn ⟨eg1, v5, v6, hLG, rfl⟩
      rw [Int.zero_add]
      have hn' : n ≤ N := by omega
      obtain ⟨tb, tys, hx, htb, tval⟩ := pall n hn'
      refine gn_ ?_
      have c1 := el_lcR1 (σ := [some (.ref a), some (.ref b), some (.ref F), some (.ref p), some (.ref L), some (.int (n : Int)), v6, none]) (H := G1) (ta := tCons (tCB (rLen K) (tCons (tVar 1) tNil)) tNil)
        (t := tB (tOp (rIxL K) (tOp (rIxL K) (tVar 3) (tVar 5)) (tVar 7))) (te := tVar 7) (j := 7) (vs := [7]) (n := (N : Int) + 1) (fun r => tabF ms n r) (fun r => .int (r : Int))
        (ea_cons (len _ _ rfl (ex_l eg1 hbs')) ea_nil) ⟨by omega, by omega⟩ (fun _ => rfl)
        (fun r G2 eg2 hr2 => et_B (ev_op (ev_op (ev_var rfl) (ev_var rfl) (rv_ixL (SqL.of ((eg1.trans eg2) _ _ hps)) (atI_nat hx))) (ev_var rfl) (rv_ixL (SqL.of ((eg1.trans eg2) _ _ htb)) (atI_nat (tval r (by omega)))))) (fun r G2 eg2 hr2 _ => ev_var rfl)
      rw [given_ints, show ((N : Int) + 1).toNat = N + 1 by omega] at c1
      refine el_seq c1 fun E G2 hE eg2 hEs => ?_
      have fst := ev_first (K := K) (σ := [some (.ref a), some (.ref b), some (.ref F), some (.ref p), some (.ref L), some (.int (n : Int)), some (.ref E), none]) (H := G2) (k := 6) rfl hEs (Nat.le_trans (List.length_filter_le _ _) (by rw [List.length_range]; omega))
      have hL2 := eg2 _ _ hLG
      refine ⟨_, rfl, .inl ⟨rfl, _, SqL.of hL2⟩, fst G2 (Ex.refl _) _ fun G3 eg3 => ⟨L, _, _, rfl, rfl, eg3 _ _ hL2, small1000 (by rw [List.length_map, List.length_range]; omega), ?_⟩⟩
      refine ⟨(eg1.trans (eg2.trans eg3)).mut hL, some (.int (n : Int)), some (.ref E), ?_, rfl⟩
      rw [upd_same, List.range_succ (n := n), List.map_append]
      rfl
    · rintro σ G1 ⟨eg1, v5, v6, hLG, rfl⟩
      rw [show ((N : Int) + 1).toNat = N + 1 by omega, hitem] at hLG
      have hFG := eg1 _ _ hFx
      have LF : L ≠ F := fun z => by rw [z, hFx] at hL; cases hL
      refine ⟨_, rfl, .inl ⟨rfl, _, SqL.of hFG⟩, _, rfl, F, xs, _, rfl, rfl, hFG, small1000 (by omega), ?_⟩
      refine ⟨bf.trans ((But.of eg1).trans But.upd), (eh.trans eg1).mut hF, xs ++ [.ref L], _, _, _, _, upd_same, by rw [List.length_append, hlx]; rfl, ?_, rfl⟩
      rw [List.take_add_one, hms, List.map_append]
      refine RdL.snoc ((RdL.ex eg1 rlx).but But.upd fun a ha => ha.2) ?_
      exact rd_line (by rw [upd_ne LF]; exact hLG) ⟨fresh_back eh hL, LF⟩ (by rw [(top_stands hN ms).1]; omega)
  · rintro σ H' ⟨bf, eh, xs, v3, v4, v5, v6, hFx, hlx, rlx, rfl⟩
    refine ⟨_, rfl, q F H' eh ?_⟩
    rw [List.take_of_length_le (by rw [sufs_len]; omega)] at rlx
    have el : linesP (stairsM N ns) = .list ((sufs ns).map fun ms => lineP (topS N ms)) := by
      unfold linesP
      rw [stairsM_sufs, List.map_map]
      rfl
    rw [el]
    exact .lst hFx hF rlx.1 (by omega) fun i x d hx hd => (rlx.2 i x d hx hd).of fun a ha => ha.1
end
end L2.U


set_option Elab.async false
set_option linter.all false
set_option maxRecDepth 100000
set_option maxHeartbeats 4000000
namespace L2.U
open PySem PySem.Spec PyProof.Rows Evl


section
variable {P : Program} {w : World} {K : PySem.W.Frag} {mg : Str → Option Value} {base : Heap}
/-- the law's own comparing with None or an integer -/
def spSameR (K : PySem.W.Frag) (C : Addr) : Sp := fun vs H Q _ => ∃ (x : V) (d : PyData) (o : Option Int) (n : Nat) (ok : Addr → Prop), vs = [x, optV o] ∧ Ro K C ok H n x d ∧ Q (.bl (decide (optD d = some o))) H
theorem okr_law_same (T : TK K mg) : FnOk P w K mg base CX0 1 T.law_same.a T.law_same.fd ["told", "due"] (spSameR K T.C) := by
  have ih := ok_same (P := P) (w := w) (base := base) T.toTA1 0
  refine T.law_same.F.ok sc_law_same (fun vs H Q E h => ?_) (fun cdv A outer s H vs Q E hr h => ?_)
  · obtain ⟨x, d, o, n, ok, rfl, _⟩ := h; rfl
  obtain ⟨x, d, o, n, ok, rfl, h, q⟩ := h
  refine ⟨_, (pss_cons (ps_if (PW.pt (pw_or (pt_cmpR op_isN (pv 1) pe_non (nomark _)) (pw_or1 (pt_val (pe_callB (kisi K) (by rfl) T.z_isinstance (by decide +kernel) (pa_cons (pv 1) (pa_cons (pe_bltn (v := .ty "bool") rfl T.z_bool (by decide +kernel) rfl) pa_nil))))))) (pss_one (ps_ret (pe_ifExp (pt_cmpR op_isN (pv 1) pe_non (nomark _)) (pe_cmpR op_isN (pv 0) pe_non (nomark _)) (pe_and (pe_callB (kisi K) (by rfl) T.z_isinstance (by decide +kernel) (pa_cons (pv 0) (pa_cons (pe_bltn (v := .ty "bool") rfl T.z_bool (by decide +kernel) rfl) pa_nil))) (pe_one (pe_cmpR op_eq (pe_cmpR op_is_bl (pv 0) pe_bl (nomark _)) (pe_cmpR op_is_bl (pv 1) pe_bl (nomark _)) (nomark _))))))) pss_nil)
    (pss_cons (ps_if (pt_val (pe_callB (kisi K) (by rfl) T.z_isinstance (by decide +kernel) (pa_cons (pv 1) (pa_cons (pe_bltn (v := .ty "int") rfl T.z_int (by decide +kernel) rfl) pa_nil)))) (pss_one (ps_ret (pe_and (pe_callB (kisi K) (by rfl) T.z_isinstance (by decide +kernel) (pa_cons (pv 0) (pa_cons (pe_bltn (v := .ty "int") rfl T.z_int (by decide +kernel) rfl) pa_nil))) (pe_and (pe_not (pe_callB (kisi K) (by rfl) T.z_isinstance (by decide +kernel) (pa_cons (pv 0) (pa_cons (pe_bltn (v := .ty "bool") rfl T.z_bool (by decide +kernel) rfl) pa_nil)))) (pe_one (pe_cmpR op_eq (pe_op op_sub (pe_callTy call_int1 (by rfl) T.z_int (by decide +kernel) (pa_cons (pv 0) pa_nil)) (pv 1)) pe_int (nomark _))))))) pss_nil)
    (pss_cons (ps_if (pt_val (pe_callB (kisi K) (by rfl) T.z_isinstance (by decide +kernel) (pa_cons (pv 1) (pa_cons (pe_bltn (v := .ty "str") rfl T.z_str (by decide +kernel) rfl) pa_nil)))) (pss_one (ps_ret (pe_and (pe_callB (kisi K) (by rfl) T.z_isinstance (by decide +kernel) (pa_cons (pv 0) (pa_cons (pe_bltn (v := .ty "str") rfl T.z_str (by decide +kernel) rfl) pa_nil))) (pe_and (pe_cmpR op_eq (pe_callB (klen K) (by rfl) T.z_len (by decide +kernel) (pa_cons (pv 0) pa_nil)) (pe_callB (klen K) (by rfl) T.z_len (by decide +kernel) (pa_cons (pv 1) pa_nil)) (nomark _)) (pe_one (pe_cmpR (keqD K hr.units) (pe_lc (own := [("k", 2)]) (g := gName 2) (by rfl) sc_law_same.nd (pi_range1 rfl T.z_range (pa_cons (pe_callB (klen K) (by rfl) T.z_len (by decide +kernel) (pa_cons (pv 1) pa_nil)) pa_nil)) (blkOk_by (own := [("k", 2)]) (N := ["told", "due", "k"]) (sc := defScope s_law_same) (by decide +kernel)) (fun _ _ _ _ _ => (pg_name (i := 2) sc_law_same.nd rfl (Or.inl rfl))) (fun _ _ _ _ _ => (pts_one (pt_cmpR op_ne (pe_slice sl_str (pv 0) (po_some (pv 2)) (po_some (pe_op op_add (pv 2) pe_int))) (pe_ix (kix K) (pv 1) (pv 2) (fun _ _ => rfl)) (nomark _)))) (fun _ _ _ _ _ => (pv 2))) (pe_lst pa_nil) (nomark _))))))) pss_nil)
    (pss_cons (ps_if (PW.pt (pw_or (pt_cmpR op_ne (pe_callB (kisi K) (by rfl) T.z_isinstance (by decide +kernel) (pa_cons (pv 0) (pa_cons (pe_bltn (v := .ty "list") rfl T.z_list (by decide +kernel) rfl) pa_nil))) (pe_callB (kisi K) (by rfl) T.z_isinstance (by decide +kernel) (pa_cons (pv 1) (pa_cons (pe_bltn (v := .ty "list") rfl T.z_list (by decide +kernel) rfl) pa_nil))) (nomark _)) (pw_or1 (pt_cmpR op_ne (pe_callB (kisi K) (by rfl) T.z_isinstance (by decide +kernel) (pa_cons (pv 0) (pa_cons (pe_bltn (v := .ty "tuple") rfl T.z_tuple (by decide +kernel) rfl) pa_nil))) (pe_callB (kisi K) (by rfl) T.z_isinstance (by decide +kernel) (pa_cons (pv 1) (pa_cons (pe_bltn (v := .ty "tuple") rfl T.z_tuple (by decide +kernel) rfl) pa_nil))) (nomark _))))) (pss_one (ps_ret pe_bl)) pss_nil)
    (pss_one (ps_ret (pe_and (pe_cmpR op_eq (pe_callB (klenA K) (by rfl) T.z_len (by decide +kernel) (pa_cons (pv 0) pa_nil)) (pe_callB (klenA K) (by rfl) T.z_len (by decide +kernel) (pa_cons (pv 1) pa_nil)) (nomark _)) (pe_one (pe_cmpR (keqD K hr.units) (pe_lc (own := [("k", 2)]) (g := gName 2) (by rfl) sc_law_same.nd (pi_range1 rfl T.z_range (pa_cons (pe_callB (klenA K) (by rfl) T.z_len (by decide +kernel) (pa_cons (pv 1) pa_nil)) pa_nil)) (blkOk_by (own := [("k", 2)]) (N := ["told", "due", "k"]) (sc := defScope s_law_same) (by decide +kernel)) (fun _ _ _ _ _ => (pg_name (i := 2) sc_law_same.nd rfl (Or.inl rfl))) (fun _ _ _ _ _ => (pts_one (pt_not (pt_val (pe_call (ih) (hr.mono (by decide)) rfl T.law_same.m T.law_same.F.kp T.law_same.b .nil pass0 (pa_cons (pe_ix (kix K) (pv 0) (pv 2) (fun _ _ => rfl)) (pa_cons (pe_ix (kix K) (pv 1) (pv 2) (fun _ _ => rfl)) pa_nil))))))) (fun _ _ _ _ _ => (pv 2))) (pe_lst pa_nil) (nomark _)))))))))), ?_⟩
  cases o with
  | none =>
    have e : decide (optD d = some none) = decide (x = V.non) := by
      cases h <;> first | rfl | (apply decide_eq_decide.mpr; constructor <;> intro z <;> cases z)
    rw [e] at q
    exact ⟨_, rfl, rfl, _, rfl, iteT (iteT ⟨_, rfl, rfl, _, rfl, iteT ⟨_, rfl, rfl, q⟩⟩)⟩
  | some i =>
    obtain ⟨t, ty, _, _, ki, kb⟩ := h.isi T.ca
    refine ⟨_, rfl, rfl, _, rfl, iteF ⟨_, rfl, _, _, _, _, false, rfl, .ty _, (.base (.int i)), kit_ty (by decide +kernel), ⟨_, rfl, iteF ?_⟩⟩⟩
    refine ⟨_, rfl, _, _, _, _, true, rfl, .ty _, (.base (.int i)), kit_ty (by decide +kernel), ⟨_, rfl, iteT ?_⟩⟩
    refine ⟨_, rfl, _, _, _, _, isD "int" d, rfl, .ty _, ty, ki, ⟨_, rfl, ?_⟩⟩
    have no : intB d = false → Q (.bl false) H := fun hi => by
      have : decide (optD d = some (some i)) = false := by
        refine decide_eq_false fun z => ?_
        cases d <;> first | (cases z; done) | (cases hi; done)
      rw [this] at q
      exact q
    have e : intB d = (isD "int" d && !isD "bool" d) := by cases d <;> rfl
    cases hi : isD "int" d with
    | false => exact iteF (no (by rw [e, hi]; rfl))
    | true =>
      refine iteT ⟨_, rfl, _, _, _, _, isD "bool" d, rfl, .ty _, ty, kb, ⟨_, rfl, _, rfl, ?_⟩⟩
      cases hb : isD "bool" d with
      | true => exact iteF (no (by rw [e, hi, hb]; rfl))
      | false =>
        rw [hi, hb] at e
        cases d with
        | int j =>
          cases h
          refine iteT ⟨_, rfl, .inl ⟨_, rfl, _, rfl, _, _, rfl, rfl, rfl, ?_⟩⟩
          have : decide (V.int (j - i) = V.int 0) = decide (optD (.int j) = some (some i)) := decide_eq_decide.mpr ⟨fun z => by
            have := V.int.inj z
            show some (some j) = some (some i)
            rw [show j = i by omega], fun z => by
            have := Option.some.inj (Option.some.inj z)
            rw [this, Int.sub_self]⟩
          show Q (V.bl (decide (V.int (j - i) = V.int 0))) H
          rw [this]
          exact q
        | none => cases e
        | bool _ => cases e
        | str _ => cases e
        | list _ => cases e
        | tuple _ => cases e
        | dict _ => cases e
/-- no place fails -/
theorem ev_none {te : TE} {σ : L2.St} {H : Hp} {n : Nat} {f : Nat → Bool} (hn : n ≤ 900) (h : EvL te σ H (given n f (fun i : Nat => .int (i : Int)))) : Ev (tOp (rEqD K) te (tLst tNil)) σ H (.bl ((List.range n).all fun i => !f i)) := by
  refine ev_opLL h (el_lst ea_nil (Nat.zero_le _)) fun p q H1 hp hq _ => rv_val fun H2 e2 Q k => ?_
  rw [given_ints] at hp
  have r1 := rd_ilist (K := K) (ok := fun _ => True) (e2 _ _ hp) trivial (by rw [List.length_map]; exact Nat.le_trans (List.length_filter_le _ _) (by rw [List.length_range]; exact hn))
  have r2 : Rd K (fun _ => True) H2 1 (.ref q) (.list []) := .lst (e2 _ _ hq) trivial rfl (Nat.zero_le _) (fun i x d hx _ => by cases hx)
  refine ⟨_, _, r1.dp, r2.dp, r1.shaped (by omega), r2.shaped (by omega), ?_⟩
  have : ∀ l : List Nat, (l.all fun i => !f i) = PyData.eqv (.list (((l.filter f).map fun l : Nat => (l : Int)).map PyData.int)) (.list []) := by
    intro l
    induction l with
    | nil => rfl
    | cons x l ih =>
      rw [List.all_cons, ih, List.filter_cons]
      cases f x <;> rfl
  rw [← this]
  exact k
def shp : Nat → PyData → Prop
  | 0, e => (optD e).isSome = true
  | n + 1, e => ∃ ds, e = .list ds ∧ ∀ z ∈ ds, shp n z
def ansE : Nat → PyData → PyData → Bool
  | 0, e, d => decide (optD d = optD e)
  | n + 1, e, d => isSeq d && decide ((itemsD d).length = (itemsD e).length) && (List.range (itemsD e).length).all fun i => ansE n ((itemsD e).getD i .none) ((itemsD d).getD i .none)
theorem ansE_succ (n : Nat) (e d : PyData) : ansE (n + 1) e d = (isSeq d && decide ((itemsD d).length = (itemsD e).length) && (List.range (itemsD e).length).all fun i => ansE n ((itemsD e).getD i .none) ((itemsD d).getD i .none)) := rfl
def spLEq (K : PySem.W.Frag) (C : Addr) (n : Nat) : Sp := fun vs H Q _ => ∃ (x y : V) (d e : PyData) (i j : Nat) (ok ok' : Addr → Prop), vs = [x, y] ∧ Ro K C ok H i x d ∧ Rd K ok' H j y e ∧ shp n e ∧ ∀ H', Ex H H' → Q (.bl (ansE n e d)) H'
theorem equal_zero (T : TK K mg) (ih : FnOk P w K mg base CX0 1 T.law_equal.a T.law_equal.fd ["value", "due"] (fun _ _ _ _ => False)) : FnOk P w K mg base CX0 2 T.law_equal.a T.law_equal.fd ["value", "due"] (spLEq K T.C 0) := by
  refine T.law_equal.F.ok sc_law_equal (fun vs H Q E h => ?_) (fun cdv A outer s H vs Q E hr h => ?_)
  · obtain ⟨x, y, _, _, _, _, _, _, rfl, _⟩ := h; rfl
  obtain ⟨x, y, d, e, i, j, ok, ok', rfl, hx, hy, hs, q⟩ := h
  refine ⟨_, (pss_cons (ps_if (pt_val (pe_callB (kisi K) (by rfl) T.z_isinstance (by decide +kernel) (pa_cons (pv 1) (pa_cons (pe_bltn (v := .ty "list") rfl T.z_list (by decide +kernel) rfl) pa_nil)))) (pss_cons (ps_if (PW.pt (pw_or (pt_not (pt_val (pe_callB (kisiT K) (by rfl) T.z_isinstance (by decide +kernel) (pa_cons (pv 0) (pa_cons (pe_tup (pa_cons (pe_bltn (v := .ty "list") rfl T.z_list (by decide +kernel) rfl) (pa_cons (pe_bltn (v := .ty "tuple") rfl T.z_tuple (by decide +kernel) rfl) pa_nil))) pa_nil))))) (pw_or1 (pt_cmpR op_ne (pe_callB (klen K) (by rfl) T.z_len (by decide +kernel) (pa_cons (pv 0) pa_nil)) (pe_callB (klen K) (by rfl) T.z_len (by decide +kernel) (pa_cons (pv 1) pa_nil)) (nomark _))))) (pss_one (ps_ret pe_bl)) pss_nil)
    (pss_one (ps_ret (pe_cmpR (keqD K hr.units) (pe_lc (own := [("k", 2)]) (g := gName 2) (by rfl) sc_law_equal.nd (pi_range1 rfl T.z_range (pa_cons (pe_callB (klen K) (by rfl) T.z_len (by decide +kernel) (pa_cons (pv 1) pa_nil)) pa_nil)) (blkOk_by (own := [("k", 2)]) (N := ["value", "due", "k"]) (sc := defScope s_law_equal) (by decide +kernel)) (fun _ _ _ _ _ => (pg_name (i := 2) sc_law_equal.nd rfl (Or.inl rfl))) (fun _ _ _ _ _ => (pts_one (pt_not (pt_val (pe_call (ih) (hr.mono (by decide)) rfl T.law_equal.m T.law_equal.F.kp T.law_equal.b .nil pass0 (pa_cons (pe_ix (kix K) (pv 0) (pv 2) (fun _ _ => rfl)) (pa_cons (pe_ix (kixl K) (pv 1) (pv 2) (fun _ _ => rfl)) pa_nil))))))) (fun _ _ _ _ _ => (pv 2))) (pe_lst pa_nil) (nomark _))))) pss_nil)
    (pss_one (ps_ret (pe_call (okr_law_same T) (hr.mono (by decide)) rfl T.law_same.m T.law_same.F.kp T.law_same.b .nil pass0 (pa_cons (pv 0) (pa_cons (pv 1) pa_nil)))))), ?_⟩
  have q := q H (Ex.refl _)
  cases e with
  | none =>
    cases hy
    exact ⟨_, rfl, _, _, _, _, false, rfl, .ty _, .base .non, kit_ty (by decide +kernel), _, rfl, iteF ⟨_, rfl, _, rfl, x, d, none, i, ok, rfl, hx, q⟩⟩
  | int z =>
    cases hy
    exact ⟨_, rfl, _, _, _, _, false, rfl, .ty _, .base (.int z), kit_ty (by decide +kernel), _, rfl, iteF ⟨_, rfl, _, rfl, x, d, some z, i, ok, rfl, hx, q⟩⟩
  | bool _ => cases hs
  | str _ => cases hs
  | list _ => cases hs
  | tuple _ => cases hs
  | dict _ => cases hs
theorem equal_step1 (T : TK K mg) (n : Nat) (ih : FnOk P w K mg base CX0 2 T.law_equal.a T.law_equal.fd ["value", "due"] (spLEq K T.C n)) : FnOk P w K mg base CX0 3 T.law_equal.a T.law_equal.fd ["value", "due"] (spLEq K T.C (n + 1)) := by
  refine T.law_equal.F.ok sc_law_equal (fun vs H Q E h => ?_) (fun cdv A outer s H vs Q E hr h => ?_)
  · obtain ⟨x, y, _, _, _, _, _, _, rfl, _⟩ := h; rfl
  obtain ⟨x, y, d, e, i, j, ok, ok', rfl, hx, hy, ⟨ds, rfl, hs⟩, q⟩ := h
  refine ⟨_, (pss_cons (ps_if (pt_val (pe_callB (kisi K) (by rfl) T.z_isinstance (by decide +kernel) (pa_cons (pv 1) (pa_cons (pe_bltn (v := .ty "list") rfl T.z_list (by decide +kernel) rfl) pa_nil)))) (pss_cons (ps_if (PW.pt (pw_or (pt_not (pt_val (pe_callB (kisiT K) (by rfl) T.z_isinstance (by decide +kernel) (pa_cons (pv 0) (pa_cons (pe_tup (pa_cons (pe_bltn (v := .ty "list") rfl T.z_list (by decide +kernel) rfl) (pa_cons (pe_bltn (v := .ty "tuple") rfl T.z_tuple (by decide +kernel) rfl) pa_nil))) pa_nil))))) (pw_or1 (pt_cmpR op_ne (pe_callB (klen K) (by rfl) T.z_len (by decide +kernel) (pa_cons (pv 0) pa_nil)) (pe_callB (klen K) (by rfl) T.z_len (by decide +kernel) (pa_cons (pv 1) pa_nil)) (nomark _))))) (pss_one (ps_ret pe_bl)) pss_nil)
    (pss_one (ps_ret (pe_cmpR (keqD K hr.units) (pe_lc (own := [("k", 2)]) (g := gName 2) (by rfl) sc_law_equal.nd (pi_range1 rfl T.z_range (pa_cons (pe_callB (klen K) (by rfl) T.z_len (by decide +kernel) (pa_cons (pv 1) pa_nil)) pa_nil)) (blkOk_by (own := [("k", 2)]) (N := ["value", "due", "k"]) (sc := defScope s_law_equal) (by decide +kernel)) (fun _ _ _ _ _ => (pg_name (i := 2) sc_law_equal.nd rfl (Or.inl rfl))) (fun _ _ _ _ _ => (pts_one (pt_not (pt_val (pe_call (ih) (hr.mono (by decide)) rfl T.law_equal.m T.law_equal.F.kp T.law_equal.b .nil pass0 (pa_cons (pe_ix (kix K) (pv 0) (pv 2) (fun _ _ => rfl)) (pa_cons (pe_ix (kixl K) (pv 1) (pv 2) (fun _ _ => rfl)) pa_nil))))))) (fun _ _ _ _ _ => (pv 2))) (pe_lst pa_nil) (nomark _))))) pss_nil)
    (pss_one (ps_ret (pe_call (okr_law_same T) (hr.mono (by decide)) rfl T.law_same.m T.law_same.F.kp T.law_same.b .nil pass0 (pa_cons (pv 0) (pa_cons (pv 1) pa_nil)))))), ?_⟩
  cases hy with
  | @lst j b ys ds hb hok hl hz all =>
  obtain ⟨t, ty, kl, kt, _, _⟩ := hx.isi T.ca
  refine ⟨_, rfl, _, _, _, _, true, rfl, .ty _, tyL (SqL.of hb), kit_ty (by decide +kernel), _, rfl, iteT ?_⟩
  have lenY : ∀ H1, Ex H H1 → Ev (tCB (rLen K) (tCons (tVar 1) tNil)) (start ["value", "due", "k"] [x, .ref b]) H1 (.int (ys.length : Int)) := fun H1 e1 H2 e2 Q q => ⟨_, rfl, _, _, rfl, .inl ⟨_, ex_l (e1.trans e2) (SqL.of hb), rfl⟩, q H2 (Ex.refl _)⟩
  have isx : EvT (tB (tCB (rIsiT K) (tCons (tVar 0) (tCons (tTup (tCons (tC (V.ty "list")) (tCons (tC (V.ty "tuple")) tNil))) tNil)))) (start ["value", "due", "k"] [x, .ref b]) H (isSeq d) := fun H1 e1 Q q => by
    refine ⟨_, rfl, two_le, fun p hp => ?_⟩
    have e2 := Ex.new (o := .tup [.ty "list", .ty "tuple"]) hp
    obtain ⟨t, ty, kl, kt, _, _⟩ := (hx.ex (e1.trans e2)).isi T.ca
    refine ⟨_, p, [.ty "list", .ty "tuple"], t, [.type "list", .type "tuple"], isSeq d, rfl, upd_same, .cons (.ty _) (.cons (.ty _) .nil), ty, ?_, _, rfl, q _ e2⟩
    unfold PySem.W.kitAny PySem.W.kitAny PySem.W.kitAny
    rw [kl, kt, isSeq_is]
    cases isD "list" d <;> cases isD "tuple" d <;> rfl
  cases sq : isSeq d with
  | false =>
    have : ansE (n + 1) (.list ds) d = false := by rw [ansE_succ, sq]; rfl
    rw [this] at q
    have test := et_or (t := tNot (tB (tCB (rIsiT K) (tCons (tVar 0) (tCons (tTup (tCons (tC (V.ty "list")) (tCons (tC (V.ty "tuple")) tNil))) tNil))))) (u := tTest (tOp rNe (tCB (rLen K) (tCons (tVar 0) tNil)) (tCB (rLen K) (tCons (tVar 1) tNil)))) (b := true) (et_not isx) (fun z => by rw [sq] at z; cases z)
    refine test H (Ex.refl _) _ fun H1 e1 => ?_
    rw [sq]
    exact iteT (q H1 e1)
  | true =>
    obtain ⟨c, xs, rfl, hc, hlx, hzx, allx⟩ := hx.seq sq
    have hc' := hc.imp (fun z => z.1) (fun z => z.1)
    have lenX : Ev (tCB (rLen K) (tCons (tVar 0) tNil)) (start ["value", "due", "k"] [.ref c, .ref b]) H (.int (xs.length : Int)) := fun H2 e2 Q q => ⟨_, rfl, _, _, rfl, hc'.imp (fun z => ⟨_, ex_l e2 z, rfl⟩) (fun z => ⟨_, ex_t e2 z, rfl⟩), q H2 (Ex.refl _)⟩
    have test := et_or (t := tNot (tB (tCB (rIsiT K) (tCons (tVar 0) (tCons (tTup (tCons (tC (V.ty "list")) (tCons (tC (V.ty "tuple")) tNil))) tNil))))) (u := tTest (tOp rNe (tCB (rLen K) (tCons (tVar 0) tNil)) (tCB (rLen K) (tCons (tVar 1) tNil)))) (et_not isx) (fun _ => et_test (ev_op lenX (lenY H (Ex.refl _)) (rv_ne rfl)))
    rw [sq] at test
    refine test H (Ex.refl _) _ fun H1 e1 => ?_
    by_cases le : xs.length = ys.length
    case neg =>
      have : ansE (n + 1) (.list ds) d = false := by
        rw [ansE_succ, decide_eq_false (show ¬ (itemsD d).length = (itemsD (.list ds)).length by show ¬ (itemsD d).length = ds.length; omega), Bool.and_false, Bool.false_and]
      rw [this] at q
      rw [show (!true || !decide (V.int (xs.length : Int) = V.int (ys.length : Int))) = true by rw [decide_eq_false (fun z => le (by have := V.int.inj z; omega))]; rfl]
      exact iteT (q H1 e1)
    case pos =>
      rw [show (!true || !decide (V.int (xs.length : Int) = V.int (ys.length : Int))) = false by rw [le, decide_eq_true rfl]; rfl]
      have el := el_lcR1 (σ := start ["value", "due", "k"] [.ref c, .ref b]) (H := H1) (ta := tCons (tCB (rLen K) (tCons (tVar 1) tNil)) tNil) (t := tNot (tB (tCall (spLEq K T.C n) [] E0 (tCons (tOp (rIx K) (tVar 0) (tVar 2)) (tCons (tOp (rIxL K) (tVar 1) (tVar 2)) tNil))))) (te := tVar 2) (j := 2) (vs := [2]) (n := (ys.length : Int))
        (fun i => !ansE n (ds.getD i .none) ((itemsD d).getD i .none)) (fun i => .int (i : Int)) (ea_cons (lenY H1 e1) ea_nil) ⟨by omega, by omega⟩ (fun _ => rfl) (fun k H2 e2 hk => et_not (et_B ?_)) (fun k H2 e2 hk _ => ev_var rfl)
      · rw [Int.toNat_natCast] at el
        refine iteF (ev_none (by omega) el H1 (Ex.refl _) _ fun H2 e2 => ?_)
        have q := q H2 (e1.trans e2)
        have : ansE (n + 1) (.list ds) d = (List.range ys.length).all fun i => !!ansE n (ds.getD i .none) ((itemsD d).getD i .none) := by
          rw [ansE_succ, sq, decide_eq_true (show (itemsD d).length = (itemsD (.list ds)).length by show (itemsD d).length = ds.length; omega), show (itemsD (PyData.list ds)).length = ys.length from hl.symm]
          simp only [Bool.true_and, Bool.not_not]
          rfl
        rw [this] at q
        exact q
      · have hyk : ys[k]? = some (ys[k]'(by omega)) := List.getElem?_eq_getElem _
        have hxk : xs[k]? = some (xs[k]'(by omega)) := List.getElem?_eq_getElem _
        have hdk : (itemsD d)[k]? = some ((itemsD d)[k]'(by omega)) := List.getElem?_eq_getElem _
        have hek : ds[k]? = some (ds[k]'(by omega)) := List.getElem?_eq_getElem _
        rw [getD_at hdk, getD_at hek]
        intro H3 e3 Q2 q2
        have e03 := e1.trans (e2.trans e3)
        have fin : ∀ H4, Ex H3 H4 → Q2 (.bl (ansE n ds[k] (itemsD d)[k])) H4 := fun H4 e4 => q2 H4 e4
        have cont : tOp (rIxL K) (tVar 1) (tVar 2) ((wipe (start ["value", "due", "k"] [.ref c, .ref b]) [2]).set 2 (some (.int (k : Int)))) H3 (fun y H4 => tNil ((wipe (start ["value", "due", "k"] [.ref c, .ref b]) [2]).set 2 (some (.int (k : Int)))) H4 fun vs H5 => spLEq K T.C n ((xs[k]'(by omega)) :: y :: vs ++ []) H5 Q2 E0) := by
          refine ev_op (ev_var rfl) (ev_var rfl) (rv_ixL (SqL.of (e03 _ _ hb)) (atI_nat hyk)) H3 (Ex.refl _) _ fun H4 e4 => ?_
          exact ⟨_, _, _, _, i - 1, _, ok, ok', rfl, (allx k _ _ hxk hdk).ex (e03.trans e4), (all k _ _ hyk hek).ex (e03.trans e4), hs _ (List.mem_of_getElem? hek), fun H' e => fin H' (e4.trans e)⟩
        exact ⟨_, rfl, _, rfl, hc'.elim (fun z => .inl ⟨_, _, _, _, rfl, rfl, ex_l e03 z, atI_nat hxk, cont⟩) (fun z => .inr (.inl ⟨_, _, _, _, rfl, rfl, ex_t e03 z, atI_nat hxk, cont⟩))⟩
end
end L2.U


set_option Elab.async false
set_option linter.all false
set_option maxRecDepth 100000
set_option maxHeartbeats 4000000
namespace L2.U
open PySem PySem.Spec PyProof.Rows Evl


section
variable {P : Program} {w : World} {K : PySem.W.Frag} {mg : Str → Option Value} {base : Heap}
theorem equal_step2 (T : TK K mg) (n : Nat) (ih : FnOk P w K mg base CX0 3 T.law_equal.a T.law_equal.fd ["value", "due"] (spLEq K T.C n)) : FnOk P w K mg base CX0 4 T.law_equal.a T.law_equal.fd ["value", "due"] (spLEq K T.C (n + 1)) := by
  refine T.law_equal.F.ok sc_law_equal (fun vs H Q E h => ?_) (fun cdv A outer s H vs Q E hr h => ?_)
  · obtain ⟨x, y, _, _, _, _, _, _, rfl, _⟩ := h; rfl
  obtain ⟨x, y, d, e, i, j, ok, ok', rfl, hx, hy, ⟨ds, rfl, hs⟩, q⟩ := h
  refine ⟨_, (pss_cons (ps_if (pt_val (pe_callB (kisi K) (by rfl) T.z_isinstance (by decide +kernel) (pa_cons (pv 1) (pa_cons (pe_bltn (v := .ty "list") rfl T.z_list (by decide +kernel) rfl) pa_nil)))) (pss_cons (ps_if (PW.pt (pw_or (pt_not (pt_val (pe_callB (kisiT K) (by rfl) T.z_isinstance (by decide +kernel) (pa_cons (pv 0) (pa_cons (pe_tup (pa_cons (pe_bltn (v := .ty "list") rfl T.z_list (by decide +kernel) rfl) (pa_cons (pe_bltn (v := .ty "tuple") rfl T.z_tuple (by decide +kernel) rfl) pa_nil))) pa_nil))))) (pw_or1 (pt_cmpR op_ne (pe_callB (klen K) (by rfl) T.z_len (by decide +kernel) (pa_cons (pv 0) pa_nil)) (pe_callB (klen K) (by rfl) T.z_len (by decide +kernel) (pa_cons (pv 1) pa_nil)) (nomark _))))) (pss_one (ps_ret pe_bl)) pss_nil)
    (pss_one (ps_ret (pe_cmpR (keqD K hr.units) (pe_lc (own := [("k", 2)]) (g := gName 2) (by rfl) sc_law_equal.nd (pi_range1 rfl T.z_range (pa_cons (pe_callB (klen K) (by rfl) T.z_len (by decide +kernel) (pa_cons (pv 1) pa_nil)) pa_nil)) (blkOk_by (own := [("k", 2)]) (N := ["value", "due", "k"]) (sc := defScope s_law_equal) (by decide +kernel)) (fun _ _ _ _ _ => (pg_name (i := 2) sc_law_equal.nd rfl (Or.inl rfl))) (fun _ _ _ _ _ => (pts_one (pt_not (pt_val (pe_call (ih) (hr.mono (by decide)) rfl T.law_equal.m T.law_equal.F.kp T.law_equal.b .nil pass0 (pa_cons (pe_ix (kix K) (pv 0) (pv 2) (fun _ _ => rfl)) (pa_cons (pe_ix (kixl K) (pv 1) (pv 2) (fun _ _ => rfl)) pa_nil))))))) (fun _ _ _ _ _ => (pv 2))) (pe_lst pa_nil) (nomark _))))) pss_nil)
    (pss_one (ps_ret (pe_call (okr_law_same T) (hr.mono (by decide)) rfl T.law_same.m T.law_same.F.kp T.law_same.b .nil pass0 (pa_cons (pv 0) (pa_cons (pv 1) pa_nil)))))), ?_⟩
  cases hy with
  | @lst j b ys ds hb hok hl hz all =>
  obtain ⟨t, ty, kl, kt, _, _⟩ := hx.isi T.ca
  refine ⟨_, rfl, _, _, _, _, true, rfl, .ty _, tyL (SqL.of hb), kit_ty (by decide +kernel), _, rfl, iteT ?_⟩
  have lenY : ∀ H1, Ex H H1 → Ev (tCB (rLen K) (tCons (tVar 1) tNil)) (start ["value", "due", "k"] [x, .ref b]) H1 (.int (ys.length : Int)) := fun H1 e1 H2 e2 Q q => ⟨_, rfl, _, _, rfl, .inl ⟨_, ex_l (e1.trans e2) (SqL.of hb), rfl⟩, q H2 (Ex.refl _)⟩
  have isx : EvT (tB (tCB (rIsiT K) (tCons (tVar 0) (tCons (tTup (tCons (tC (V.ty "list")) (tCons (tC (V.ty "tuple")) tNil))) tNil)))) (start ["value", "due", "k"] [x, .ref b]) H (isSeq d) := fun H1 e1 Q q => by
    refine ⟨_, rfl, two_le, fun p hp => ?_⟩
    have e2 := Ex.new (o := .tup [.ty "list", .ty "tuple"]) hp
    obtain ⟨t, ty, kl, kt, _, _⟩ := (hx.ex (e1.trans e2)).isi T.ca
    refine ⟨_, p, [.ty "list", .ty "tuple"], t, [.type "list", .type "tuple"], isSeq d, rfl, upd_same, .cons (.ty _) (.cons (.ty _) .nil), ty, ?_, _, rfl, q _ e2⟩
    unfold PySem.W.kitAny PySem.W.kitAny PySem.W.kitAny
    rw [kl, kt, isSeq_is]
    cases isD "list" d <;> cases isD "tuple" d <;> rfl
  cases sq : isSeq d with
  | false =>
    have : ansE (n + 1) (.list ds) d = false := by rw [ansE_succ, sq]; rfl
    rw [this] at q
    have test := et_or (t := tNot (tB (tCB (rIsiT K) (tCons (tVar 0) (tCons (tTup (tCons (tC (V.ty "list")) (tCons (tC (V.ty "tuple")) tNil))) tNil))))) (u := tTest (tOp rNe (tCB (rLen K) (tCons (tVar 0) tNil)) (tCB (rLen K) (tCons (tVar 1) tNil)))) (b := true) (et_not isx) (fun z => by rw [sq] at z; cases z)
    refine test H (Ex.refl _) _ fun H1 e1 => ?_
    rw [sq]
    exact iteT (q H1 e1)
  | true =>
    obtain ⟨c, xs, rfl, hc, hlx, hzx, allx⟩ := hx.seq sq
    have hc' := hc.imp (fun z => z.1) (fun z => z.1)
    have lenX : Ev (tCB (rLen K) (tCons (tVar 0) tNil)) (start ["value", "due", "k"] [.ref c, .ref b]) H (.int (xs.length : Int)) := fun H2 e2 Q q => ⟨_, rfl, _, _, rfl, hc'.imp (fun z => ⟨_, ex_l e2 z, rfl⟩) (fun z => ⟨_, ex_t e2 z, rfl⟩), q H2 (Ex.refl _)⟩
    have test := et_or (t := tNot (tB (tCB (rIsiT K) (tCons (tVar 0) (tCons (tTup (tCons (tC (V.ty "list")) (tCons (tC (V.ty "tuple")) tNil))) tNil))))) (u := tTest (tOp rNe (tCB (rLen K) (tCons (tVar 0) tNil)) (tCB (rLen K) (tCons (tVar 1) tNil)))) (et_not isx) (fun _ => et_test (ev_op lenX (lenY H (Ex.refl _)) (rv_ne rfl)))
    rw [sq] at test
    refine test H (Ex.refl _) _ fun H1 e1 => ?_
    by_cases le : xs.length = ys.length
    case neg =>
      have : ansE (n + 1) (.list ds) d = false := by
        rw [ansE_succ, decide_eq_false (show ¬ (itemsD d).length = (itemsD (.list ds)).length by show ¬ (itemsD d).length = ds.length; omega), Bool.and_false, Bool.false_and]
      rw [this] at q
      rw [show (!true || !decide (V.int (xs.length : Int) = V.int (ys.length : Int))) = true by rw [decide_eq_false (fun z => le (by have := V.int.inj z; omega))]; rfl]
      exact iteT (q H1 e1)
    case pos =>
      rw [show (!true || !decide (V.int (xs.length : Int) = V.int (ys.length : Int))) = false by rw [le, decide_eq_true rfl]; rfl]
      have el := el_lcR1 (σ := start ["value", "due", "k"] [.ref c, .ref b]) (H := H1) (ta := tCons (tCB (rLen K) (tCons (tVar 1) tNil)) tNil) (t := tNot (tB (tCall (spLEq K T.C n) [] E0 (tCons (tOp (rIx K) (tVar 0) (tVar 2)) (tCons (tOp (rIxL K) (tVar 1) (tVar 2)) tNil))))) (te := tVar 2) (j := 2) (vs := [2]) (n := (ys.length : Int))
        (fun i => !ansE n (ds.getD i .none) ((itemsD d).getD i .none)) (fun i => .int (i : Int)) (ea_cons (lenY H1 e1) ea_nil) ⟨by omega, by omega⟩ (fun _ => rfl) (fun k H2 e2 hk => et_not (et_B ?_)) (fun k H2 e2 hk _ => ev_var rfl)
      · rw [Int.toNat_natCast] at el
        refine iteF (ev_none (by omega) el H1 (Ex.refl _) _ fun H2 e2 => ?_)
        have q := q H2 (e1.trans e2)
        have : ansE (n + 1) (.list ds) d = (List.range ys.length).all fun i => !!ansE n (ds.getD i .none) ((itemsD d).getD i .none) := by
          rw [ansE_succ, sq, decide_eq_true (show (itemsD d).length = (itemsD (.list ds)).length by show (itemsD d).length = ds.length; omega), show (itemsD (PyData.list ds)).length = ys.length from hl.symm]
          simp only [Bool.true_and, Bool.not_not]
          rfl
        rw [this] at q
        exact q
      · have hyk : ys[k]? = some (ys[k]'(by omega)) := List.getElem?_eq_getElem _
        have hxk : xs[k]? = some (xs[k]'(by omega)) := List.getElem?_eq_getElem _
        have hdk : (itemsD d)[k]? = some ((itemsD d)[k]'(by omega)) := List.getElem?_eq_getElem _
        have hek : ds[k]? = some (ds[k]'(by omega)) := List.getElem?_eq_getElem _
        rw [getD_at hdk, getD_at hek]
        intro H3 e3 Q2 q2
        have e03 := e1.trans (e2.trans e3)
        have fin : ∀ H4, Ex H3 H4 → Q2 (.bl (ansE n ds[k] (itemsD d)[k])) H4 := fun H4 e4 => q2 H4 e4
        have cont : tOp (rIxL K) (tVar 1) (tVar 2) ((wipe (start ["value", "due", "k"] [.ref c, .ref b]) [2]).set 2 (some (.int (k : Int)))) H3 (fun y H4 => tNil ((wipe (start ["value", "due", "k"] [.ref c, .ref b]) [2]).set 2 (some (.int (k : Int)))) H4 fun vs H5 => spLEq K T.C n ((xs[k]'(by omega)) :: y :: vs ++ []) H5 Q2 E0) := by
          refine ev_op (ev_var rfl) (ev_var rfl) (rv_ixL (SqL.of (e03 _ _ hb)) (atI_nat hyk)) H3 (Ex.refl _) _ fun H4 e4 => ?_
          exact ⟨_, _, _, _, i - 1, _, ok, ok', rfl, (allx k _ _ hxk hdk).ex (e03.trans e4), (all k _ _ hyk hek).ex (e03.trans e4), hs _ (List.mem_of_getElem? hek), fun H' e => fin H' (e4.trans e)⟩
        exact ⟨_, rfl, _, rfl, hc'.elim (fun z => .inl ⟨_, _, _, _, rfl, rfl, ex_l e03 z, atI_nat hxk, cont⟩) (fun z => .inr (.inl ⟨_, _, _, _, rfl, rfl, ex_t e03 z, atI_nat hxk, cont⟩))⟩
theorem all_congr {n : Nat} {f g : Nat → Bool} (h : ∀ i, i < n → f i = g i) : (List.range n).all f = (List.range n).all g := by
  rw [Bool.eq_iff_iff, List.all_eq_true, List.all_eq_true]
  exact ⟨fun a i hi => by rw [← h i (List.mem_range.mp hi)]; exact a i hi, fun a i hi => by rw [h i (List.mem_range.mp hi)]; exact a i hi⟩
theorem getD_map {α β : Type} {f : α → β} {l : List α} {i : Nat} (h : i < l.length) (x : α) (y : β) : (l.map f).getD i y = f (l.getD i x) := by
  rw [List.getD_eq_getElem?_getD, List.getD_eq_getElem?_getD, List.getElem?_map, List.getElem?_eq_getElem h]
  rfl
theorem ans_line (s : List (Option Int)) (d : PyData) : ansE 1 (lineP s) d = lineD s d := by
  rw [ansE_succ]
  show (isSeq d && decide ((itemsD d).length = (s.map optP).length) && (List.range (s.map optP).length).all fun i => decide (optD ((itemsD d).getD i .none) = optD ((s.map optP).getD i .none))) = lineD s d
  unfold lineD
  rw [List.length_map, Bool.and_assoc]
  congr 1
  rw [Bool.eq_iff_iff, Bool.and_eq_true, decide_eq_true_eq, decide_eq_true_eq, List.all_eq_true]
  constructor
  · rintro ⟨hl, al⟩
    refine List.ext_getElem (by rw [List.length_map, List.length_map]; exact hl) fun i h1 h2 => ?_
    rw [List.length_map] at h1 h2
    have := of_decide_eq_true (al i (List.mem_range.mpr h2))
    rw [List.getD_eq_getElem?_getD, List.getElem?_eq_getElem h1, getD_map h2 none, optD_optP, List.getD_eq_getElem?_getD, List.getElem?_eq_getElem h2] at this
    rw [List.getElem_map, List.getElem_map]
    exact this
  · intro e
    have hl : (itemsD d).length = s.length := by have := congrArg List.length e; rwa [List.length_map, List.length_map] at this
    refine ⟨hl, fun i hi => decide_eq_true ?_⟩
    have h2 := List.mem_range.mp hi
    rw [List.getD_eq_getElem?_getD, List.getElem?_eq_getElem (show i < (itemsD d).length by omega), getD_map h2 none, optD_optP, List.getD_eq_getElem?_getD, List.getElem?_eq_getElem h2]
    have := congrArg (fun l => l[i]?) e
    simp only [List.getElem?_map, List.getElem?_eq_getElem (show i < (itemsD d).length by omega), List.getElem?_eq_getElem h2] at this
    exact Option.some.inj this
theorem ans_lines (S : List (List (Option Int))) (d : PyData) : ansE 2 (linesP S) d = holdD S d := by
  rw [ansE_succ]
  unfold holdD
  show (isSeq d && decide ((itemsD d).length = (S.map lineP).length) && (List.range (S.map lineP).length).all fun i => ansE 1 ((S.map lineP).getD i .none) ((itemsD d).getD i .none)) = _
  rw [List.length_map]
  congr 1
  refine all_congr fun i hi => ?_
  rw [getD_map hi [], ans_line]
def spLEqual (K : PySem.W.Frag) (C : Addr) : Sp := fun vs H Q _ => ∃ (x y : V) (d : PyData) (S : List (List (Option Int))) (i j : Nat) (ok ok' : Addr → Prop), vs = [x, y] ∧ Ro K C ok H i x d ∧ Rd K ok' H j y (linesP S) ∧ ∀ H', Ex H H' → Q (.bl (holdD S d)) H'
theorem ok_law_equal (T : TK K mg) : FnOk P w K mg base CX0 4 T.law_equal.a T.law_equal.fd ["value", "due"] (spLEqual K T.C) := by
  have F := equal_step2 (P := P) (w := w) (base := base) T 1 (equal_step1 T 0 (equal_zero T ⟨fun vs H Q E h => h.elim, fun A outer s H args us vs Q E _ _ _ _ h => h.elim⟩))
  refine ⟨fun vs H Q E h => ?_, fun A outer s H args us vs Q E hr he hb hv h => ?_⟩
  · obtain ⟨x, y, _, _, _, _, _, _, rfl, _⟩ := h; rfl
  obtain ⟨x, y, d, S, i, j, ok, ok', rfl, hx, hy, q⟩ := h
  refine F.run A outer s H args us _ Q E hr he hb hv ⟨x, y, d, linesP S, i, j, ok, ok', rfl, hx, hy, ⟨_, rfl, fun z hz => ?_⟩, fun H' e => ?_⟩
  · obtain ⟨s, _, rfl⟩ := List.mem_map.mp hz
    refine ⟨_, rfl, fun z hz => ?_⟩
    obtain ⟨o, _, rfl⟩ := List.mem_map.mp hz
    show (optD (optP o)).isSome = true
    rw [optD_optP]
    rfl
  · rw [ans_lines]
    exact q H' e
end
end L2.U


set_option Elab.async false
set_option linter.all false
set_option maxRecDepth 100000
set_option maxHeartbeats 4000000
namespace L2.U
open PySem PySem.Spec PyProof.Rows Evl


section
variable {P : Program} {w : World} {K : PySem.W.Frag} {mg : Str → Option Value} {base : Heap}
theorem rd_listI {ok : Addr → Prop} {H : Hp} {m : Nat} {x : V} {t : List Int} (h : Rd K ok H m x (listI t)) : ∃ o, x = .ref o ∧ ok o ∧ H o = some (.lst (t.map V.int)) ∧ t.length ≤ 900 := by
  unfold listI at h
  generalize hd : (PyData.list (t.map PyData.int)) = d at h
  cases h with
  | lst h2 ha2 hl2 hz2 all2 =>
    cases hd
    rename_i b xs
    have e : xs = t.map V.int := by
      apply List.ext_getElem?
      intro i
      by_cases hi : i < xs.length
      · have hx := List.getElem?_eq_getElem hi
        have ht : i < t.length := by rw [List.length_map] at hl2; omega
        have r := all2 i _ (.int t[i]) hx (by rw [List.getElem?_map, List.getElem?_eq_getElem ht]; rfl)
        rw [hx, List.getElem?_map, List.getElem?_eq_getElem ht]
        generalize xs[i] = y at r ⊢
        cases r
        rfl
      · rw [List.getElem?_eq_none (by omega), List.getElem?_eq_none (by rw [List.length_map] at hl2 ⊢; omega)]
    rw [e] at h2
    exact ⟨b, rfl, ha2, h2, by rw [List.length_map] at hl2; omega⟩
  | _ => cases hd
theorem rd_bests2 {ok : Addr → Prop} {H : Hp} {j N : Nat} {x : V} (h : Rd K ok H (j + 1) x (list3 (bestsF N))) : ∃ p vs, x = .ref p ∧ H p = some (.lst vs) ∧ vs.length = N + 1 ∧ ∀ n, n ≤ N → ∃ b us, vs[n]? = some (.ref b) ∧ H b = some (.lst us) ∧ ∀ r, r ≤ n → ∃ c, us[r]? = some (.ref c) ∧ H c = some (.lst (((List.range (n - r)).map fun l => mostF n r l).map V.int)) := by
  obtain ⟨p, vs, rfl, hp, hlen, _, all⟩ := rd_list3 h
  refine ⟨p, vs, rfl, hp, by rw [hlen]; unfold bestsF; rw [List.length_map, List.length_range], fun n hn => ?_⟩
  have e0 : (bestsF N)[n]? = some (bestRow n) := by
    unfold bestsF
    rw [List.getElem?_map, List.getElem?_range (by omega)]
    rfl
  have ln : n < vs.length := by rw [hlen]; exact (List.getElem?_eq_some_iff.mp e0).1
  obtain ⟨t, e1, r1⟩ := all n _ (List.getElem?_eq_getElem ln)
  rw [e0] at e1
  cases e1
  obtain ⟨b, us, e2, hb, hul, _, uall⟩ := rd_list2 r1
  refine ⟨b, us, by rw [List.getElem?_eq_getElem ln, e2], hb, fun r hr => ?_⟩
  have e3 : (bestRow n)[r]? = some ((List.range (n - r)).map fun l => mostF n r l) := by
    unfold bestRow
    rw [List.getElem?_map, List.getElem?_range (by omega)]
    rfl
  have lr : r < us.length := by rw [hul]; exact (List.getElem?_eq_some_iff.mp e3).1
  obtain ⟨c, t, e4, e5, hc⟩ := uall r _ (List.getElem?_eq_getElem lr)
  rw [e3] at e5
  cases e5
  exact ⟨c, by rw [List.getElem?_eq_getElem lr, e4], hc⟩
theorem cutV_len {xs : List V} {lo hi : Option Int} : (cutV xs lo hi).length ≤ xs.length := by
  unfold cutV
  rw [List.length_take, List.length_drop]
  omega
section
variable {σ : L2.St} {H : Hp} {ta tb : TE} {xs ys : List V}
/-- items[:i] + [x] + items[j:] -/
theorem el_mid {a : Addr} {i j : Int} {te tf tg : TE} {x : V} (h : Ev ta σ H (.ref a)) (hs : SqL K H a xs) (h1 : Ev te σ H (.int i)) (h2 : Ev tf σ H x) (h3 : Ev tg σ H (.int j)) (hl : xs.length ≤ 1000) :
    EvL (tOp rCat (tOp rCat (tSl (rSlL K) ta tNoPart (tPart te)) (tLst (tCons tf tNil))) (tSl (rSlL K) ta (tPart tg) tNoPart)) σ H (cutV xs none (some i) ++ [x] ++ cutV xs (some j) none) := by
  have c1 := @cutV_len xs none (some i)
  have c2 := @cutV_len xs (some j) none
  refine el_catL (el_catL (el_sl h eo_none (eo_some h1) hs) (el_lst (ea_cons h2 ea_nil) (by show 1 ≤ 100000; decide)) ?_) (el_sl h (eo_some h3) eo_none hs) ?_
  · rw [List.length_singleton]; omega
  · rw [List.length_append, List.length_singleton]; omega
end
theorem gnv {i : Nat} {v v' : V} {σ : L2.St} {H : Hp} {k : L2.St → Hp → Prop} (e : v = v') (h : gName i v' σ H k) : gName i v σ H k := e ▸ h
theorem rd_lst_at' {ok : Addr → Prop} {H : Hp} {n : Nat} {x : V} {ds : List PyData} (h : Rd K ok H n x (.list ds)) : ∃ p xs, x = .ref p ∧ H p = some (.lst xs) ∧ ok p ∧ xs.length = ds.length ∧ ∀ (i : Nat) (x : V) (d : PyData), xs[i]? = some x → ds[i]? = some d → Rd K ok H (n - 1) x d := by
  cases h with
  | lst h ha hl hz all => exact ⟨_, _, rfl, h, ha, hl, all⟩
theorem rd_bests3 {ok : Addr → Prop} {H : Hp} {j N : Nat} {p : Addr} (h : Rd K ok H j (.ref p) (list3 (bestsF N))) : ∃ vs, H p = some (.lst vs) ∧ ok p ∧ vs.length = N + 1 ∧ ∀ n, n ≤ N → ∃ b us, vs[n]? = some (.ref b) ∧ ok b ∧ H b = some (.lst us) ∧ ∀ r, r ≤ n → ∃ c, us[r]? = some (.ref c) ∧ ok c ∧ H c = some (.lst (((List.range (n - r)).map fun l => mostF n r l).map V.int)) := by
  obtain ⟨p', vs, e, hp, okp, hl, all⟩ := rd_lst_at' h
  cases e
  have hl2 : vs.length = N + 1 := by rw [hl, List.length_map]; unfold bestsF; rw [List.length_map, List.length_range]
  refine ⟨vs, hp, okp, hl2, fun n hn => ?_⟩
  have r1 := all n _ (list2 (bestRow n)) (List.getElem?_eq_getElem (by omega)) (by unfold bestsF; rw [List.getElem?_map, List.getElem?_map, List.getElem?_range (by omega)]; rfl)
  obtain ⟨b, us, e, hb, okb, ul, uall⟩ := rd_lst_at' r1
  have ul2 : us.length = n + 1 := by rw [ul, List.length_map]; unfold bestRow; rw [List.length_map, List.length_range]
  refine ⟨b, us, by rw [List.getElem?_eq_getElem (show n < vs.length by omega), e], okb, hb, fun r hr => ?_⟩
  have r2 := uall r _ (listI ((List.range (n - r)).map fun l => mostF n r l)) (List.getElem?_eq_getElem (by omega)) (by unfold bestRow; rw [List.getElem?_map, List.getElem?_map, List.getElem?_range (by omega)]; rfl)
  obtain ⟨c, e, okc, hc, _⟩ := rd_listI r2
  exact ⟨c, by rw [List.getElem?_eq_getElem (show r < us.length by omega), e], okc, hc⟩
theorem most_in' {n r l : Nat} (hn : n ≤ 16) (h : l + r < n) : 1 ≤ mostF n r l ∧ mostF n r l ≤ 1000000000000000000 := most_in ⟨n, by omega⟩ ⟨r, by omega⟩ ⟨l, by omega⟩ h
theorem pow50 {σ : L2.St} {H : Hp} : Ev (tOp (rI CPow fun i j => V.int (i ^ j.toNat)) (tC (V.int 10)) (tC (V.int 50))) σ H (.int 100000000000000000000000000000000000000000000000000) := by
  have e50 : (10 : Int) ^ (50 : Int).toNat = 100000000000000000000000000000000000000000000000000 := by decide
  have := ev_op (σ := σ) (H := H) (ta := tC (V.int 10)) (tb := tC (V.int 50)) ev_c ev_c (rv_I (C := CPow) (g := fun i j => V.int (i ^ j.toNat)) (i := 10) (j := 50) ⟨by decide, by decide, by decide⟩)
  rw [e50] at this
  exact this
/-- one of the numbers of a list that is written down -/
theorem ev_pick {σ : L2.St} {H : Hp} {xs : List Int} {ta : TA} {k : Nat} {i : Int} (hk : σ[k]? = some (some (.int i))) (h0 : 0 ≤ i) (h1 : i < xs.length) (hl : xs.length ≤ 1000) (h : EvA ta σ H (xs.map V.int)) : ∃ v, v ∈ xs ∧ Ev (tOp (rIxL K) (tLst ta) (tVar k)) σ H (.int v) := by
  obtain ⟨v, hv, hv2⟩ := at_get (xs := xs.map V.int) h0 (by rw [List.length_map]; omega)
  obtain ⟨y, hy, rfl⟩ := ints_get hv2
  exact ⟨y, List.mem_of_getElem? hy, ev_opL1 (el_lst h (by rw [List.length_map]; omega)) (fun H2 e2 => ev_var hk) fun p H2 hp e2 => rv_ixL (SqL.of hp) hv⟩
def spLRow (K : PySem.W.Frag) : Sp := fun vs H Q _ => ∃ (b p : Addr) (m k N j : Nat) (ok : Addr → Prop), vs = [.ref b, .int (m : Int), .ref p] ∧ BoxAt H b (k + 4 * m + 2) ∧ Rd K ok H (j + 1) (.ref p) (list3 (bestsF N)) ∧ (∀ a, ok a → a ≠ b) ∧ 1 ≤ N ∧ N ≤ 16 ∧ m ≤ 16 ∧
  ∀ F ns H', H F = none → H' F = some (.lst (ns.map V.int)) → RowOk ns → BoxAt H' b k → But b H H' → Q (.ref F) H'
theorem ok_law_row (T : TK K mg) : FnOk P w K mg base CX0 2 T.law_row.a T.law_row.fd ["box", "many", "bests"] (spLRow K) := by
  refine T.law_row.F.ok sc_law_row (fun vs H Q E h => ?_) (fun cdv A outer s H vs Q E hr h => ?_)
  · obtain ⟨b, p, m, k, N, j, ok, rfl, _⟩ := h; rfl
  obtain ⟨b, p, m, k, N, j, ok, rfl, hB, hp, okb, hN1, hN, hm, q⟩ := h
  refine ⟨_, (pss_cons (ps_set (i := 3) sc_law_row.nd rfl (Or.inl rfl) (pe_lst pa_nil))
    (pss_cons (ps_for PassesOwn.never rfl (pi_range1 rfl T.z_range (pa_cons (pv 1) pa_nil)) (pg_name (i := 4) sc_law_row.nd rfl (Or.inl rfl)) (pss_cons (ps_par (i := 5) (j := 6) (by rfl) sc_law_row.nd rfl rfl (by decide) rfl rfl (pa_cons (pe_call (ok_law_take T.toTA1) (hr.mono (by decide)) rfl T.law_take.m T.law_take.F.kp T.law_take.b .nil pass0 (pa_cons (pv 0) (pa_cons pe_int pa_nil))) (pa_cons (pe_op op_add pe_int (pe_call (ok_law_take T.toTA1) (hr.mono (by decide)) rfl T.law_take.m T.law_take.F.kp T.law_take.b .nil pass0 (pa_cons (pv 0) (pa_cons (pe_op op_sub (pe_callB (klen K) (by rfl) T.z_len (by decide +kernel) (pa_cons (pv 2) pa_nil)) pe_int) pa_nil)))) pa_nil)) (by rfl))
    (pss_cons (ps_set (i := 7) sc_law_row.nd rfl (Or.inl rfl) (pe_call (ok_law_take T.toTA1) (hr.mono (by decide)) rfl T.law_take.m T.law_take.F.kp T.law_take.b .nil pass0 (pa_cons (pv 0) (pa_cons (pe_callB (call_min2 rfl) (by rfl) T.z_min (by decide +kernel) (pa_cons (pv 6) (pa_cons pe_int pa_nil))) pa_nil))))
    (pss_cons (ps_set (i := 8) sc_law_row.nd rfl (Or.inl rfl) (pe_ix (kixl K) (pe_ix (kixl K) (pe_ix (kixl K) (pv 2) (pv 6) (fun _ _ => rfl)) (pv 7) (fun _ _ => rfl)) (pe_call (ok_law_take T.toTA1) (hr.mono (by decide)) rfl T.law_take.m T.law_take.F.kp T.law_take.b .nil pass0 (pa_cons (pv 0) (pa_cons (pe_op op_sub (pv 6) (pv 7)) pa_nil))) (fun _ _ => rfl)))
    (pss_one (ps_expr (pe_bm PySem.F.plainAttrs_list PySem.F.slot_list_append PySem.F.type_list_append mt_append (pv 3) (pa_cons (pe_ix (kixl K) (pe_lst (pa_cons pe_int (pa_cons pe_int (pa_cons (pv 8) (pa_cons (pv 8) (pa_cons (pv 8) (pa_cons (pe_op op_add (pv 8) pe_int) (pa_cons (pe_op op_add (pv 8) (pe_callTy call_int1 (by rfl) T.z_int (by decide +kernel) (pa_cons (pe_cmpR op_gt (pv 8) pe_int (nomark _)) pa_nil))) (pa_cons (pv 8) pa_nil))))))))) (pv 5) (fun _ _ => rfl)) pa_nil))))))))
    (pss_cons (ps_if (PW.pt (pw_and (pt_cmpR op_eq (pe_call (ok_law_take T.toTA1) (hr.mono (by decide)) rfl T.law_take.m T.law_take.F.kp T.law_take.b .nil pass0 (pa_cons (pv 0) (pa_cons pe_int pa_nil))) pe_int (nomark _)) (pw_and1 (pt_cmpR (kneD K hr.units) (pv 3) (pe_lst pa_nil) (nomark _))))) (pss_one (ps_asg (pe_op op_pow pe_int pe_int) (pg_sub (pv 3) (pe_call (ok_law_take T.toTA1) (hr.mono (by decide)) rfl T.law_take.m T.law_take.F.kp T.law_take.b .nil pass0 (pa_cons (pv 0) (pa_cons (pe_callB (klen K) (by rfl) T.z_len (by decide +kernel) (pa_cons (pv 3) pa_nil)) pa_nil))) set_list))) pss_nil)
    (pss_one (ps_ret (pv 3)))))), ?_⟩
  refine el_seq (i := 3) (xs := []) (el_lst ea_nil (Nat.zero_le _)) fun F H1 hF e1 hF1 => ?_
  have Fb : F ≠ b := hB.ne hF
  refine ⟨_, rfl, (m : Int), rfl, by omega, by omega, for_range (lo := 0) (n := (m : Int).toNat) (fun r σ H' => BoxAt H' b (k + 4 * (m - r) + 2) ∧ But b H H' ∧ ∃ (zs : List Int) (v4 v5 v6 v7 v8 : Option V), H' F = some (.lst (zs.map V.int)) ∧ zs.length = r ∧ (∀ z ∈ zs, 1 ≤ z ∧ z ≤ 1000000000000000001) ∧ σ = [some (.ref b), some (.int (m : Int)), some (.ref p), some (.ref F), v4, v5, v6, v7, v8])
    ⟨hB.ex e1, But.of e1, [], _, _, _, _, _, hF1, rfl, (fun z hz => by cases hz), rfl⟩ ?_ ?_⟩
  · rintro r σ H' hr ⟨B, kb, zs, v4, v5, v6, v7, v8, hFz, hzl, hz, rfl⟩
    have hrm : r < m := by omega
    obtain ⟨M, hM⟩ : ∃ M, m - r = M + 1 := ⟨m - r - 1, by omega⟩
    rw [hM] at B
    refine gn_ ?_
    refine ⟨_, rfl, b, 8, k + 4 * M + 5, rfl, by decide, by decide, B, fun way H2 w0 w1 B2 k2 => ?_⟩
    have kb2 := kb.trans k2
    obtain ⟨bs, hbs, okp, hbl, ball⟩ := rd_bests3 (hp.but kb2 okb)
    refine ⟨_, rfl, _, rfl, _, N + 1, rfl, .inl ⟨bs, SqL.of hbs, hbl.symm⟩, _, _, rfl, rfl, b, ((N + 1 : Nat) : Int) - 1, k + 4 * M + 4, rfl, by omega, by omega, B2, fun n0 H3 n0a n0b B3 k3 => ⟨_, _, rfl, rfl, _, _, rfl, ?_⟩⟩
    obtain ⟨n, hn, hn1, hnN⟩ : ∃ n : Nat, 1 + n0 = (n : Int) ∧ 1 ≤ n ∧ n ≤ N := ⟨(1 + n0).toNat, by omega, by omega, by omega⟩
    refine ⟨_, rfl, _, rfl, _, _, rfl, b, (if (3 : Int) < 1 + n0 then 3 else 1 + n0), k + 4 * M + 3, rfl, by split <;> omega, by split <;> omega, B3, fun ri H4 r0 r1 B4 k4 => ?_⟩
    obtain ⟨rr, hrr, hrn⟩ : ∃ rr : Nat, ri = (rr : Int) ∧ rr < n := ⟨ri.toNat, by omega, by split at r1 <;> omega⟩
    subst hrr
    have k34 := k3.trans k4
    obtain ⟨b1, us, hb1, okb1, hus, uall⟩ := ball n hnN
    obtain ⟨c, hc, okc, hcs⟩ := uall rr (by omega)
    have hbs4 := k34 _ _ (okb _ okp) hbs
    have hus4 := k34 _ _ (okb _ okb1) hus
    refine gn_ ⟨_, rfl, _, rfl, _, _, _, _, rfl, rfl, SqL.of hbs4, at_of hn hb1, _, rfl, _, _, _, _, rfl, rfl, SqL.of hus4, atI_nat hc, _, rfl, _, rfl, _, rfl, _, _, rfl, rfl, b, 1 + n0 - (rr : Int), k + 4 * M + 2, rfl, by omega, by omega, B4, fun li H5 l0 l1 B5 k5 => ?_⟩
    obtain ⟨l, hl, hln⟩ : ∃ l : Nat, li = (l : Int) ∧ l + rr < n := ⟨li.toNat, by omega, by omega⟩
    subst hl
    have k35 := k34.trans k5
    have hcs5 := k35 _ _ (okb _ okc) hcs
    have num := most_in' (n := n) (r := rr) (l := l) (by omega) hln
    refine ⟨_, _, _, _, rfl, rfl, SqL.of hcs5, atI_nat (v := .int (mostF n rr l)) (by rw [List.getElem?_map, List.getElem?_map, List.getElem?_range (by omega)]; rfl), ?_⟩
    generalize mostF n rr l = X at num ⊢
    refine gn_ ?_
    have kb5 := kb2.trans k35
    have hF5 := k35 _ _ Fb (k2 _ _ Fb hFz)
    obtain ⟨v, hv, ev⟩ := ev_pick (K := K) (H := H5) (σ := [some (.ref b), some (.int (m : Int)), some (.ref p), some (.ref F), some (.int (0 + (r : Int))), some (.int way), some (.int (1 + n0)), some (.int (rr : Int)), some (.int X)]) (k := 5) (i := way) (xs := [1, 1, X, X, X, X + 1, X + (if decide (1 < X) = true then 1 else 0), X]) (ta := tCons (tC (V.int 1)) (tCons (tC (V.int 1)) (tCons (tVar 8) (tCons (tVar 8) (tCons (tVar 8) (tCons (tOp (rI0 fun i j => V.int (i + j)) (tVar 8) (tC (V.int 1))) (tCons (tOp (rI0 fun i j => V.int (i + j)) (tVar 8) (tCB (fun xs H Q => (∃ i, xs = [V.int i] ∧ Q (V.int i) H) ∨ ∃ k, xs = [V.bl k] ∧ Q (V.int (if k = true then 1 else 0)) H) (tCons (tOp (rI0 fun i j => V.bl (decide (j < i))) (tVar 8) (tC (V.int 1))) tNil))) (tCons (tVar 8) tNil)))))))) rfl w0 (by show way < 8; exact w1) (by show 8 ≤ 1000; decide)
      (ea_cons ev_c (ea_cons ev_c (ea_cons (ev_var rfl) (ea_cons (ev_var rfl) (ea_cons (ev_var rfl) (ea_cons (ev_op (ev_var rfl) ev_c rv_I0) (ea_cons (ev_op (ev_var rfl) (fun H1 e1 Q q => ⟨_, rfl, _, _, rfl, rfl, .inr ⟨_, rfl, q _ (Ex.refl _)⟩⟩) rv_I0) (ea_cons (ev_var rfl) ea_nil))))))))
    have vr : 1 ≤ v ∧ v ≤ 1000000000000000001 := by
      simp only [List.mem_cons, List.not_mem_nil, or_false] at hv
      split at hv <;> omega
    refine ⟨_, rfl, .inl ⟨rfl, _, SqL.of hF5⟩, ev H5 (Ex.refl _) _ fun H6 e6 => ⟨F, _, _, rfl, rfl, e6 _ _ hF5, small1000 (by rw [List.length_map]; omega), ?_⟩⟩
    refine ⟨?_, butMut (kb5.trans (But.of e6)) hF, zs ++ [v], _, _, _, _, _, by rw [upd_same, List.map_append]; rfl, by rw [List.length_append, hzl]; rfl, fun z hz2 => ?_, rfl⟩
    · have : m - (r + 1) = M := by omega
      rw [this]
      exact box_mut (B5.ex e6) Fb
    · rcases List.mem_append.mp hz2 with h | h
      · exact hz z h
      · rw [List.mem_singleton] at h
        rw [h]
        exact vr
  · rintro σ H' ⟨B, kb, zs, v4, v5, v6, v7, v8, hFz, hzl, hz, rfl⟩
    rw [Int.toNat_natCast] at hzl B
    rw [Nat.sub_self] at B
    have F0 : ∀ {ns : List Int} {H2 : Hp} {v4 v5 v6 v7 v8 : Option V}, But b H H2 → BoxAt H2 b k → H2 F = some (.lst (ns.map V.int)) → RowOk ns → tRet (tVar 3) { nx := fun x H' => Q V.non H', rt := Q } [some (.ref b), some (.int (m : Int)), some (.ref p), some (.ref F), v4, v5, v6, v7, v8] H2 := fun kb B hF2 ok => ⟨_, rfl, q F _ _ hF hF2 ok B kb⟩
    have rok : RowOk zs := ⟨by omega, fun z h => by have := hz z h; omega⟩
    refine ⟨_, rfl, b, 9, k + 1, rfl, by decide, by decide, B, fun s H1 s0 s1 B1 k1 => ⟨rfl, _, rfl, ?_⟩⟩
    have hF2 := k1 _ _ Fb hFz
    have kb1 := kb.trans k1
    refine ite2 (fun c => ?_) (fun c => iteF (F0 kb1 (B1.le (by omega)) hF2 rok))
    refine ⟨_, rfl, Nat.zero_le _, fun z hz9 => ?_⟩
    have ez := Ex.new (o := .lst []) hz9
    have rdw : Rd K (fun _ => True) (upd H1 z (.lst [])) 1 (.ref F) (.list (zs.map PyData.int)) := rd_ilist (ez _ _ hF2) trivial (by omega)
    have rde : Rd K (fun _ => True) (upd H1 z (.lst [])) 1 (.ref z) (.list []) := .lst upd_same trivial rfl (Nat.zero_le _) (fun i x d hx _ => by cases hx)
    refine ⟨_, _, rdw.dp, rde.dp, rdw.shaped (by omega), rde.shaped (by omega), _, rfl, ?_⟩
    generalize upd H1 z (.lst []) = H2 at ez ⊢
    have kb2 := kb1.trans (But.of ez)
    have B2 := B1.ex ez
    have hF3 := ez _ _ hF2
    cases zs with
    | nil => exact iteF (F0 kb2 (B2.le (by omega)) hF3 rok)
    | cons x zs =>
    refine iteT ?_
    refine pow50 H2 (Ex.refl _) _ fun H3 e3 => ?_
    refine ⟨_, rfl, _, rfl, _, rfl, _, (x :: zs).length, rfl, .inl ⟨_, SqL.of (e3 _ _ hF3), (List.length_map ..).symm⟩, b, ((x :: zs).length : Int), k, rfl, by rw [List.length_cons]; omega, by omega, B2.ex e3, fun i H4 i0 i1 B4 k4 => ?_⟩
    have hF4 := k4 _ _ Fb (e3 _ _ hF3)
    refine ⟨F, _, i, i.toNat, rfl, rfl, hF4, ixN_int i0 (by rw [List.length_map]; exact i1), ?_⟩
    refine F0 (ns := (x :: zs).set i.toNat 100000000000000000000000000000000000000000000000000) (butMut ((kb2.trans (But.of e3)).trans k4) hF) (box_mut B4 Fb) (by rw [upd_same, List.map_set]) ⟨by rw [List.length_set]; exact rok.1, fun z hz => ?_⟩
    rcases List.mem_or_eq_of_mem_set hz with h | h
    · exact rok.2 z h
    · rw [h]; exact ⟨by decide, by decide⟩
end
end L2.U


set_option Elab.async false
set_option linter.all false
set_option maxRecDepth 100000
set_option maxHeartbeats 4000000
namespace L2.U
open PySem PySem.Spec PyProof.Rows Evl


section
variable {P : Program} {w : World} {K : PySem.W.Frag} {mg : Str → Option Value} {base : Heap}
/-- a comprehension over a list: what holds of each item that is made -/
theorem lc_gen {σ : L2.St} {H : Hp} {a : Addr} {xs : List V} {te : TE} {j : Nat} {vs : List Nat} {Q : VK} (R : Addr → Nat → V → Hp → Prop) (hx : H a = some (.lst xs)) (hz : xs.length ≤ 900) (hw : ∀ x, wipe ((wipe σ vs).set j (some x)) vs = wipe σ vs)
    (rex : ∀ D i y H1 H2, Ex H1 H2 → R D i y H1 → R D i y H2) (rbut : ∀ D i y H1 zs us, H1 D = some (.lst zs) → R D i y H1 → R D i y (upd H1 D (.lst us)))
    (he : ∀ D i x H1 zs, H D = none → Ex H H1 → H1 D = some (.lst zs) → xs[i]? = some x → ∀ Q : VK, (∀ y H2, Ex H1 H2 → R D i y H2 → Q y H2) → te ((wipe σ vs).set j (some x)) H1 Q)
    (q : ∀ p ys H', Ex H H' → H p = none → H' p = some (.lst ys) → ys.length = xs.length → (∀ i y, ys[i]? = some y → R p i y H') → Q (.ref p) H') :
    ∀ D, H D = none → ∃ W : Nat → Nat → Hp → Prop, (∃ m, W 0 m (upd H D (.lst []))) ∧ ∀ i m H, W i m H →
      ((Itl K a).stop i H ∧ Q (.ref D) H) ∨ ((Itl K a).go i H ∧ ∃ Nx : Hp → Prop, (∀ H', Nx H' → ∃ m', m' < m ∧ W (i + 1) m' H') ∧ ∀ x H', (Itl K a).yld i H x H' → gName j x (wipe σ vs) H' fun σ2 H2 => wipe σ2 vs = wipe σ vs ∧ tYes σ2 H2 fun b H3 =>
        if b = true then te σ2 H3 fun y H4 => ∃ acc, H4 D = some (.lst acc) ∧ acc.length < sizeLine ∧ Nx (upd H4 D (.lst (acc ++ [y]))) else Nx H3) := fun D hD =>
  lc_list (K := K) (a := a) (xs := xs) (Qd := fun H' => Q (.ref D) H') (fun i H' => Ex H H' ∧ ∃ ys, H' D = some (.lst ys) ∧ ys.length = i ∧ ∀ k y, ys[k]? = some y → R D k y H') ⟨Ex.new hD, [], upd_same, rfl, fun k y h => by cases h⟩ (fun i H' _ p => SqL.of (p.1 _ _ hx))
    (fun i x H' hi p => ⟨hw x, tyes (by
      obtain ⟨p1, ys, p2, p3, p4⟩ := p
      have hlt := (List.getElem?_eq_some_iff.mp hi).1
      refine he D i x H' ys hD p1 p2 hi _ fun y H2 e2 r => ⟨ys, e2 _ _ p2, small1000 (by omega), (p1.trans e2).mut hD, ys ++ [y], upd_same, by rw [List.length_append, p3]; rfl, fun k z hk => rbut D k z H2 ys _ (e2 _ _ p2) ?_⟩
      by_cases c : k < ys.length
      · rw [List.getElem?_append_left c] at hk
        exact rex D k z H' H2 e2 (p4 k z hk)
      · rw [List.getElem?_append_right (by omega)] at hk
        have : k - ys.length = 0 := by
          have := (List.getElem?_eq_some_iff.mp hk).1
          rw [List.length_singleton] at this
          omega
        rw [this] at hk
        cases Option.some.inj hk
        rw [show k = i by omega]
        exact r)⟩)
    (fun H' p => q D p.2.choose H' p.1 hD p.2.choose_spec.1 p.2.choose_spec.2.1 p.2.choose_spec.2.2)
/-! ### copies -/
inductive Cp (K : PySem.W.Frag) (C : Addr) (ok : Addr → Prop) (H : Hp) : Nat → V → V → Prop
  | non {n} : Cp K C ok H n .non .non
  | bl {n} (b : Bool) : Cp K C ok H n (.bl b) (.bl b)
  | int {n} (i : Int) : Cp K C ok H n (.int i) (.int i)
  | str {n} (z : Str) (h : z.length ≤ 1000) : Cp K C ok H n (.str z) (.str z)
  | own {n} {a dx : Addr} {fs : List (Str × V)} (h : H a = some (.ins C dx fs)) : Cp K C ok H n (.ref a) (.ref a)
  | dct {n} {a : Addr} (h : H a = some (.dK [])) : Cp K C ok H n (.ref a) (.ref a)
  | tup {n} {a : Addr} {ds : List PyData} (h : Rd K ok H n (.ref a) (.tuple ds)) : Cp K C ok H n (.ref a) (.ref a)
  | lst {n} {a b : Addr} {xs ys : List V} (h1 : H a = some (.lst xs)) (h2 : H b = some (.lst ys)) (o1 : ok a) (o2 : ok b) (hl : xs.length = ys.length) (hz : xs.length ≤ 900)
      (all : ∀ (i : Nat) (x y : V), xs[i]? = some x → ys[i]? = some y → Cp K C ok H n x y) : Cp K C ok H (n + 1) (.ref a) (.ref b)
section
variable {C : Addr} {ok ok' : Addr → Prop} {H H' : Hp} {n m : Nat} {x y : V} {d : PyData}
theorem Cp.ex (e : Ex H H') (h : Cp K C ok H n x y) : Cp K C ok H' n x y := by
  induction h with
  | non => exact .non
  | bl b => exact .bl b
  | int i => exact .int i
  | str z h => exact .str z h
  | own h => exact .own (e _ _ h)
  | dct h => exact .dct (e _ _ h)
  | tup h => exact .tup (h.ex e)
  | lst h1 h2 o1 o2 hl hz _ ih => exact .lst (e _ _ h1) (e _ _ h2) o1 o2 hl hz ih
theorem Cp.of (w : ∀ a, ok a → ok' a) (h : Cp K C ok H n x y) : Cp K C ok' H n x y := by
  induction h with
  | non => exact .non
  | bl b => exact .bl b
  | int i => exact .int i
  | str z h => exact .str z h
  | own h => exact .own h
  | dct h => exact .dct h
  | tup h => exact .tup (h.of w)
  | lst h1 h2 o1 o2 hl hz _ ih => exact .lst h1 h2 (w _ o1) (w _ o2) hl hz ih
theorem Cp.but {b : Addr} {zs : List V} (hb : H b = some (.lst zs)) (k : But b H H') (w : ∀ a, ok a → a ≠ b) (h : Cp K C ok H n x y) : Cp K C ok H' n x y := by
  induction h with
  | non => exact .non
  | bl b => exact .bl b
  | int i => exact .int i
  | str z h => exact .str z h
  | own h => exact .own (k _ _ (ne_of h hb (by intro z; cases z)) h)
  | dct h => exact .dct (k _ _ (ne_of h hb (by intro z; cases z)) h)
  | tup h => exact .tup (h.but k w)
  | lst h1 h2 o1 o2 hl hz _ ih => exact .lst (k _ _ (w _ o1) h1) (k _ _ (w _ o2) h2) o1 o2 hl hz ih
theorem Ro.cp (h : Ro K C ok H n x d) : Cp K C ok H n x x := by
  induction h with
  | non => exact .non
  | bl b => exact .bl b
  | int i => exact .int i
  | str z h h2 => exact .str z h
  | lst h ha hl hz _ ih =>
    refine .lst h h ha ha rfl hz fun i x y hx hy => ?_
    rw [hx] at hy
    cases Option.some.inj hy
    have hi := (List.getElem?_eq_some_iff.mp hx).1
    exact ih i x _ hx (List.getElem?_eq_getElem (by omega))
  | tup h ha hl hz all => exact .tup (.tup h ha hl hz all)
  | dct h => exact .dct h
  | own h => exact .own h
end
def spStay (K : PySem.W.Frag) (C : Addr) (i : Nat) : Sp := fun vs H Q _ => ∃ (x y : V) (n : Nat), vs = [x, y] ∧ Cp K C (fun _ => True) H n x y ∧ n < i ∧ n ≤ 8 ∧ ∀ H', Ex H H' → Q (.bl true) H'
theorem stay_step (T : TK K mg) (i : Nat) (ih : FnOk P w K mg base CX0 (i + 9) T.law_stayed.a T.law_stayed.fd ["now", "was"] (spStay K T.C i)) : FnOk P w K mg base CX0 (i + 10) T.law_stayed.a T.law_stayed.fd ["now", "was"] (spStay K T.C (i + 1)) := by
  refine T.law_stayed.F.ok sc_law_stayed (fun vs H Q E h => ?_) (fun cdv A outer s H vs Q E hr h => ?_)
  · obtain ⟨x, y, n, rfl, _⟩ := h; rfl
  obtain ⟨x, y, n, rfl, h, hn, hn8, q⟩ := h
  refine ⟨_, (pss_cons (ps_if (pt_val (pe_callB (kisi K) (by rfl) T.z_isinstance (by decide +kernel) (pa_cons (pv 1) (pa_cons (pe_bltn (v := .ty "list") rfl T.z_list (by decide +kernel) rfl) pa_nil)))) (pss_one (ps_ret (pe_and (pe_callB (kisi K) (by rfl) T.z_isinstance (by decide +kernel) (pa_cons (pv 0) (pa_cons (pe_bltn (v := .ty "list") rfl T.z_list (by decide +kernel) rfl) pa_nil))) (pe_and (pe_cmpR op_eq (pe_callB (klen K) (by rfl) T.z_len (by decide +kernel) (pa_cons (pv 0) pa_nil)) (pe_callB (klen K) (by rfl) T.z_len (by decide +kernel) (pa_cons (pv 1) pa_nil)) (nomark _)) (pe_one (pe_cmpR (keqD K hr.units) (pe_lc (own := [("k", 2)]) (g := gName 2) (by rfl) sc_law_stayed.nd (pi_range1 rfl T.z_range (pa_cons (pe_callB (klen K) (by rfl) T.z_len (by decide +kernel) (pa_cons (pv 1) pa_nil)) pa_nil)) (blkOk_by (own := [("k", 2)]) (N := ["now", "was", "k"]) (sc := defScope s_law_stayed) (by decide +kernel)) (fun _ _ _ _ _ => (pg_name (i := 2) sc_law_stayed.nd rfl (Or.inl rfl))) (fun _ _ _ _ _ => (pts_one (pt_not (pt_val (pe_call (ih) (hr.mono (by omega)) rfl T.law_stayed.m T.law_stayed.F.kp T.law_stayed.b .nil pass0 (pa_cons (pe_ix (kixl K) (pv 0) (pv 2) (fun _ _ => rfl)) (pa_cons (pe_ix (kixl K) (pv 1) (pv 2) (fun _ _ => rfl)) pa_nil))))))) (fun _ _ _ _ _ => (pv 2))) (pe_lst pa_nil) (nomark _))))))) pss_nil)
    (pss_one (ps_ret (pe_and (pe_cmpR op_eq (pe_callB (kisi K) (by rfl) T.z_isinstance (by decide +kernel) (pa_cons (pv 0) (pa_cons (pe_glob (v := .ref T.Line.C) rfl T.Line.gC rfl) pa_nil))) (pe_callB (kisi K) (by rfl) T.z_isinstance (by decide +kernel) (pa_cons (pv 1) (pa_cons (pe_glob (v := .ref T.Line.C) rfl T.Line.gC rfl) pa_nil))) (nomark _)) (pe_one (pe_or (pe_callB (kisiT K) (by rfl) T.z_isinstance (by decide +kernel) (pa_cons (pv 1) (pa_cons (pe_tup (pa_cons (pe_glob (v := .ref T.Line.C) rfl T.Line.gC rfl) (pa_cons (pe_bltn (v := .ty "dict") rfl T.z_dict (by decide +kernel) rfl) pa_nil))) pa_nil))) (pe_one (pe_call (ok_law_same T.toTA1) (hr.mono (by omega)) rfl T.law_same.m T.law_same.F.kp T.law_same.b .nil pass0 (pa_cons (pv 0) (pa_cons (pv 1) pa_nil)))))))))), ?_⟩
  have leaf : ∀ (t : Value) (bo bd : Bool), x = y → (∀ H', Ex H H' → TyX K H' x t) → PySem.W.kitOne K t (.type "list") = some false → PySem.W.kitOne K t (.ref T.C) = some bo → PySem.W.kitOne K t (.type "dict") = some bd → ((bo || bd) = false → Sm K H 8 x x) →
      tSeq (tIfS (tB (tCB (rIsi K) (tCons (tVar 1) (tCons (tC (V.ty "list")) tNil)))) (tRet (tAndV (tCB (rIsi K) (tCons (tVar 0) (tCons (tC (V.ty "list")) tNil))) (tAndV (tOp rEq (tCB (rLen K) (tCons (tVar 0) tNil)) (tCB (rLen K) (tCons (tVar 1) tNil))) (tOp (rEqD K) (tLc (iRng1 (tCons (tCB (rLen K) (tCons (tVar 1) tNil)) tNil)) (gName 2) (tNot (tB (tCall (spStay K T.C i) [] E0 (tCons (tOp (rIxL K) (tVar 0) (tVar 2)) (tCons (tOp (rIxL K) (tVar 1) (tVar 2)) tNil))))) (tVar 2) [2]) (tLst tNil))))) tNext)
        (tRet (tAndV (tOp rEq (tCB (rIsi K) (tCons (tVar 0) (tCons (tC (V.ref T.C)) tNil))) (tCB (rIsi K) (tCons (tVar 1) (tCons (tC (V.ref T.C)) tNil)))) (tOrV (tCB (rIsiT K) (tCons (tVar 1) (tCons (tTup (tCons (tC (V.ref T.C)) (tCons (tC (V.ty "dict")) tNil))) tNil))) (tCall (spSame K 8) [] E0 (tCons (tVar 0) (tCons (tVar 1) tNil))))))
        { nx := fun x H' => Q V.non H', rt := Q } (start ["now", "was", "k"] [x, y]) H := by
    rintro t bo bd rfl ty kl kc kd sm
    refine ⟨_, rfl, _, _, _, _, false, rfl, .ty _, ty H (Ex.refl _), kl, _, rfl, iteF ?_⟩
    refine ⟨_, rfl, _, _, _, _, bo, rfl, .own _, ty H (Ex.refl _), kc, _, rfl, _, _, _, _, bo, rfl, .own _, ty H (Ex.refl _), kc, rfl, true, by rw [decide_eq_true rfl], iteT ?_⟩
    refine ⟨_, rfl, two_le, fun p hp => ?_⟩
    have e1 := Ex.new (o := .tup [.ref T.C, .ty "dict"]) hp
    refine ⟨_, p, [.ref T.C, .ty "dict"], t, [.ref T.C, .type "dict"], bo || bd, rfl, upd_same, .cons (.own _) (.cons (.ty _) .nil), ty _ e1, ?_, _, rfl, ?_⟩
    · unfold PySem.W.kitAny PySem.W.kitAny PySem.W.kitAny
      rw [kc, kd]
      cases bo <;> cases bd <;> rfl
    · cases c : (bo || bd) with
      | true => exact iteT (q _ e1)
      | false => exact iteF ⟨_, rfl, _, rfl, _, _, rfl, (sm c).ex e1, fun H' e => q H' (e1.trans e)⟩
  cases h with
  | non => exact leaf (.type "NoneType") false false rfl (fun H' e => .base .non) (kit_ty (by decide +kernel)) (T.ca.kitC (by decide)) (kit_ty (by decide +kernel)) fun _ => .non
  | bl b => exact leaf (.type "bool") false false rfl (fun H' e => .base (.bl b)) (kit_ty (by decide +kernel)) (T.ca.kitC (by decide)) (kit_ty (by decide +kernel)) fun _ => .bl b
  | int z => exact leaf (.type "int") false false rfl (fun H' e => .base (.int z)) (kit_ty (by decide +kernel)) (T.ca.kitC (by decide)) (kit_ty (by decide +kernel)) fun _ => .int z
  | str z hz => exact leaf (.type "str") false false rfl (fun H' e => .base (.str z)) (kit_ty (by decide +kernel)) (T.ca.kitC (by decide)) (kit_ty (by decide +kernel)) fun _ => .str z hz
  | own h => exact leaf (.ref T.C) true false rfl (fun H' e => .base (.ins (e _ _ h) T.ca.cl T.ca.ha T.ca.hn T.ca.htk T.ca.hm)) (T.ca.kit (by decide) (by decide +kernel)) ClsAt.kitS (T.ca.kit (by decide) (by decide +kernel)) fun c => by cases c
  | dct h => exact leaf (.type "dict") false true rfl (fun H' e => .base (.dK (e _ _ h))) (kit_ty (by decide +kernel)) (T.ca.kitC (by decide)) (kit_ty (by decide +kernel)) fun c => by cases c
  | @tup n a ds h =>
    have h0 : Rd K (fun _ => True) H n (.ref a) (.tuple ds) := h
    have ht : ∃ xs, SqT K H a xs := by
      cases h with
      | tup h => exact ⟨_, h⟩
    obtain ⟨xs, ht⟩ := ht
    exact leaf (.type "tuple") false false rfl (fun H' e => tyT (ex_t e ht)) (kit_ty (by decide +kernel)) (T.ca.kitC (by decide)) (kit_ty (by decide +kernel)) fun _ => (h0.sm h0).le (by omega)
  | @lst n a b xs ys h1 h2 o1 o2 hl hz all =>
    refine ⟨_, rfl, _, _, _, _, true, rfl, .ty _, tyL (SqL.of h2), kit_ty (by decide +kernel), _, rfl, iteT ?_⟩
    refine ⟨_, rfl, _, _, _, _, true, rfl, .ty _, tyL (SqL.of h1), kit_ty (by decide +kernel), _, rfl, iteT ?_⟩
    refine ⟨_, rfl, _, _, rfl, .inl ⟨_, SqL.of h1, rfl⟩, _, rfl, _, _, rfl, .inl ⟨_, SqL.of h2, rfl⟩, rfl, true, by rw [hl, decide_eq_true rfl], iteT ?_⟩
    have el := el_lcR1 (σ := start ["now", "was", "k"] [.ref a, .ref b]) (H := H) (ta := tCons (tCB (rLen K) (tCons (tVar 1) tNil)) tNil) (t := tNot (tB (tCall (spStay K T.C i) [] E0 (tCons (tOp (rIxL K) (tVar 0) (tVar 2)) (tCons (tOp (rIxL K) (tVar 1) (tVar 2)) tNil))))) (te := tVar 2) (j := 2) (vs := [2]) (n := (ys.length : Int))
      (fun i => !true) (fun i => .int (i : Int)) (ea_cons (fun H1 e1 Q q => ⟨_, rfl, _, _, rfl, .inl ⟨_, ex_l e1 (SqL.of h2), rfl⟩, q _ (Ex.refl _)⟩) ea_nil) ⟨by omega, by omega⟩ (fun _ => rfl) (fun k H2 e2 hk => et_not (et_B ?_)) (fun k H2 e2 hk _ => ev_var rfl)
    · rw [Int.toNat_natCast] at el
      refine ev_none (by omega) el H (Ex.refl _) _ fun H2 e2 => ?_
      have : ((List.range ys.length).all fun i => !!true) = true := List.all_eq_true.mpr fun _ _ => rfl
      rw [this]
      exact q H2 e2
    · have hyk : ys[k]? = some (ys[k]'(by omega)) := List.getElem?_eq_getElem _
      have hxk : xs[k]? = some (xs[k]'(by omega)) := List.getElem?_eq_getElem _
      intro H3 e3 Q2 q2
      have e03 := e2.trans e3
      exact ⟨_, rfl, _, rfl, _, _, _, _, rfl, rfl, SqL.of (e03 _ _ h1), atI_nat hxk, _, rfl, _, rfl, _, _, _, _, rfl, rfl, SqL.of (e03 _ _ h2), atI_nat hyk, _, _, n, rfl, (all k _ _ hxk hyk).ex e03, by omega, by omega, fun H' e => q2 H' e⟩
theorem ok_stay (T : TK K mg) : ∀ i, FnOk P w K mg base CX0 (i + 9) T.law_stayed.a T.law_stayed.fd ["now", "was"] (spStay K T.C i)
  | 0 => ⟨fun vs H Q E h => (by obtain ⟨_, _, _, _, _, h, _⟩ := h; exact absurd h (Nat.not_lt_zero _)), fun A outer s H args us vs Q E _ _ _ _ h => (by obtain ⟨_, _, _, _, _, h, _⟩ := h; exact absurd h (Nat.not_lt_zero _))⟩
  | i + 1 => stay_step T i (ok_stay T i)
theorem ok_law_stayed (T : TK K mg) : FnOk P w K mg base CX0 15 T.law_stayed.a T.law_stayed.fd ["now", "was"] (spStay K T.C 6) := ok_stay T 6
end
end L2.U


set_option Elab.async false
set_option linter.all false
set_option maxRecDepth 100000
set_option maxHeartbeats 4000000
namespace L2.U
open PySem PySem.Spec PyProof.Rows Evl


section
variable {P : Program} {w : World} {K : PySem.W.Frag} {mg : Str → Option Value} {base : Heap}
def Lv (H : Hp) : Addr → Prop := fun a => ∃ o, H a = some o
theorem Lv.ne {H : Hp} {D a : Addr} (hD : H D = none) (h : Lv H a) : a ≠ D := by
  obtain ⟨o, h⟩ := h
  rintro rfl
  rw [hD] at h
  cases h
theorem Ro.islist {C : Addr} {ok : Addr → Prop} {H : Hp} {n k : Nat} {x : V} {d : PyData} {σ : L2.St} (c : ClsAt K C) (h : Ro K C ok H n x d) (hk : σ[k]? = some (some x)) : EvT (tB (tCB (rIsi K) (tCons (tVar k) (tCons (tC (V.ty "list")) tNil)))) σ H (isD "list" d) := fun H1 e1 Q q => by
  obtain ⟨t, ty, kl, _⟩ := (h.ex e1).isi c
  exact ⟨_, hk, _, _, _, _, _, rfl, .ty _, ty, kl, _, rfl, q H1 (Ex.refl _)⟩
theorem isD_list {d : PyData} (h : isD "list" d = true) : ∃ ds, d = .list ds := by
  cases d with
  | list ds => exact ⟨ds, rfl⟩
  | none => cases h
  | bool _ => cases h
  | int _ => cases h
  | str _ => cases h
  | tuple _ => cases h
  | dict _ => cases h
def spCopy (K : PySem.W.Frag) (C : Addr) : Sp := fun vs H Q _ => ∃ (x : V) (d : PyData) (n : Nat), vs = [x] ∧ Ro K C (Lv H) H n x d ∧ ∀ y H', Ex H H' → Ro K C (fun _ => True) H' n y d → Cp K C (fun _ => True) H' n y x → Q y H'
theorem ok_law_copy (T : TK K mg) : FnOk P w K mg base CX0 1 T.law_copy.a T.law_copy.fd ["value"] (spCopy K T.C) := by
  refine T.law_copy.F.ok sc_law_copy (fun vs H Q E h => ?_) (fun cdv A outer s H vs Q E hr h => ?_)
  · obtain ⟨x, d, n, rfl, _⟩ := h; rfl
  obtain ⟨x, d, n, rfl, h, q⟩ := h
  refine ⟨_, (pss_cons (ps_if (pt_not (pt_val (pe_callB (kisi K) (by rfl) T.z_isinstance (by decide +kernel) (pa_cons (pv 0) (pa_cons (pe_bltn (v := .ty "list") rfl T.z_list (by decide +kernel) rfl) pa_nil))))) (pss_one (ps_ret (pv 0))) pss_nil)
    (pss_one (ps_ret (pe_lc (own := [("line", 1)]) (g := gName 1) (by rfl) sc_law_copy.nd (kpil K (pv 0)) (blkOk_by (own := [("line", 1)]) (N := ["value", "line"]) (sc := defScope s_law_copy) (by decide +kernel)) (fun _ _ _ _ _ => (pg_name (i := 1) sc_law_copy.nd rfl (Or.inl rfl))) (fun _ _ _ _ _ => pts_nil) (fun _ _ _ _ _ => (pe_ifExp (pt_val (pe_callB (kisi K) (by rfl) T.z_isinstance (by decide +kernel) (pa_cons (pv 1) (pa_cons (pe_bltn (v := .ty "list") rfl T.z_list (by decide +kernel) rfl) pa_nil)))) (pe_callTy (klist K) (by rfl) T.z_list (by decide +kernel) (pa_cons (pv 1) pa_nil)) (pv 1))))))), ?_⟩
  have test := et_not (h.islist (k := 0) (σ := start ["value", "line"] [x]) T.ca rfl)
  dsimp only [tSeq, tIfS]
  refine test H (Ex.refl _) _ fun H1 e1 => ?_
  cases c : isD "list" d with
  | false => exact iteT ⟨_, rfl, q x H1 e1 ((h.ex e1).of fun _ _ => trivial) (((h.ex e1).cp).of fun _ _ => trivial)⟩
  | true =>
  refine iteF ?_
  obtain ⟨ds, rfl⟩ := isD_list c
  cases h with
  | @lst n a xs ds ha hok hl hz all =>
  have ha1 := e1 _ _ ha
  refine ⟨_, rfl, a, rfl, ⟨_, SqL.of ha1⟩, lc_gen (K := K) (σ := start ["value", "line"] [.ref a]) (j := 1) (vs := [1]) (Q := Q) (fun D i y H' => ∃ x dd, xs[i]? = some x ∧ ds[i]? = some dd ∧ Ro K T.C (fun a => a ≠ D) H' n y dd ∧ Cp K T.C (fun a => a ≠ D) H' n y x) ha1 hz (fun x => rfl) ?_ ?_ ?_ ?_⟩
  · rintro D i y H1 H2 e ⟨x, dd, hx, hd, r, cp⟩
    exact ⟨x, dd, hx, hd, r.ex e, cp.ex e⟩
  · rintro D i y H1 zs us hD ⟨x, dd, hx, hd, r, cp⟩
    exact ⟨x, dd, hx, hd, r.but hD But.upd (fun a h => h), cp.but hD But.upd (fun a h => h)⟩
  · intro D i x H2 zs hD e2 hDz hx Q2 q2
    have hi := (List.getElem?_eq_some_iff.mp hx).1
    have hd : ds[i]? = some (ds[i]'(by omega)) := List.getElem?_eq_getElem _
    have r0 := (all i x _ hx hd).ex (e1.trans e2)
    have hD0 : H D = none := fresh_back e1 hD
    have r := r0.of (ok' := fun a => a ≠ D) fun a h => h.ne hD0
    have test := r.islist (k := 1) (σ := [some (.ref a), some x]) T.ca rfl
    refine test H2 (Ex.refl _) _ fun H3 e3 => ?_
    cases c : isD "list" (ds[i]'(by omega)) with
    | false => exact iteF ⟨_, rfl, q2 x H3 e3 ⟨x, _, hx, hd, r.ex e3, (r.ex e3).cp⟩⟩
    | true =>
      obtain ⟨es, he⟩ := isD_list c
      rw [he] at r hd
      cases r with
      | @lst n t us es ht htD hul huz uall =>
        have ht3 := e3 _ _ ht
        have hD3 := e3 _ _ hDz
        refine iteT ⟨_, rfl, t, us, rfl, .inl (SqL.of ht3), fun l hl => ?_⟩
        have e4 := Ex.new (o := .lst us) hl
        have lD : l ≠ D := fun z => by rw [z, hD3] at hl; cases hl
        refine q2 _ _ (e3.trans e4) ⟨_, _, hx, hd, .lst upd_same lD hul huz (fun i x d hx hd => (uall i x d hx hd).ex (e3.trans e4)), .lst upd_same (e4 _ _ ht3) lD htD rfl huz fun i x y hx hy => ?_⟩
        rw [hx] at hy
        cases Option.some.inj hy
        have hi := (List.getElem?_eq_some_iff.mp hx).1
        exact ((uall i x _ hx (List.getElem?_eq_getElem (by omega))).ex (e3.trans e4)).cp
  · intro p ys H' e2 hp hp2 hyl hys
    have get : ∀ i y, ys[i]? = some y → ∃ x dd, xs[i]? = some x ∧ ds[i]? = some dd ∧ Ro K T.C (fun _ => True) H' n y dd ∧ Cp K T.C (fun _ => True) H' n y x := fun i y hy => by
      obtain ⟨x, dd, hx, hd, r, cp⟩ := hys i y hy
      exact ⟨x, dd, hx, hd, r.of fun _ _ => trivial, cp.of fun _ _ => trivial⟩
    refine q _ _ (e1.trans e2) (.lst hp2 trivial (by omega) (by omega) fun i y d hy hd => ?_) (.lst hp2 (e2 _ _ ha1) trivial trivial hyl (by omega) fun i y x hy hx => ?_)
    · obtain ⟨x, dd, hx, hd', r, _⟩ := get i y hy
      rw [hd] at hd'
      cases Option.some.inj hd'
      exact r
    · obtain ⟨x', dd, hx', hd', _, cp⟩ := get i y hy
      rw [hx] at hx'
      cases Option.some.inj hx'
      exact cp
def spLTold (K : PySem.W.Frag) : Sp := fun vs H Q _ => ∃ (a : Addr) (m : Nat) (ns : List Int) (named : Int), vs = [.ref a, .int (m : Int), .int named] ∧ H a = some (.lst (ns.map V.int)) ∧ RowOk ns ∧ m ≤ 16 ∧
  ∀ p (ts : List Addr) H', Ex H H' → H p = none → H' p = some (.lst (ts.map V.ref)) → StrAt H' ts (stairsM m ns) → ts.Nodup → (∀ t ∈ ts, H t = none ∧ t ≠ p) → Q (.ref p) H'
theorem ok_law_told (T : TK K mg) : FnOk P w K mg base CX0 10 T.law_told.a T.law_told.fd ["row", "most", "named"] (spLTold K) := by
  refine T.law_told.F.ok sc_law_told (fun vs H Q E h => ?_) (fun cdv A outer s H vs Q E hr h => ?_)
  · obtain ⟨a, m, ns, named, rfl, _⟩ := h; rfl
  obtain ⟨a, m, ns, named, rfl, ha, hk, hm, q⟩ := h
  refine ⟨_, (pss_cons (ps_set (i := 3) sc_law_told.nd rfl (Or.inl rfl) (pe_callTy (klist K) (by rfl) T.z_list (by decide +kernel) (pa_cons (pv 0) pa_nil)))
    (pss_cons (ps_if (pt_cmpR op_eq (pv 2) pe_int (nomark _)) (pss_one (ps_set (i := 4) sc_law_told.nd rfl (Or.inl rfl) (pe_call (okc_stairs T) (hr.mono (by decide)) rfl T.stairs.m T.stairs.F.kp T.stairs.b .nil pass0 (pa_cons (pv 3) (pa_cons (pv 1) pa_nil))))) (pss_one (ps_if (pt_cmpR op_eq (pv 2) pe_int (nomark _)) (pss_one (ps_set (i := 4) sc_law_told.nd rfl (Or.inl rfl) (by exact (pe_callKw (okc_stairs T) (hr.mono (by decide)) rfl T.stairs.m T.stairs.F.kp T.kb_stairs_most_row (fun σ => pass0At) (pk_cons (pv 1) (pk_cons (pv 3) pk_nil)))))) (pss_one (ps_ret (pe_call (okc_stairs T) (hr.mono (by decide)) rfl T.stairs.m T.stairs.F.kp T.stairs.b .nil pass0 (pa_cons (pe_callTy (ktuple K) (by rfl) T.z_tuple (by decide +kernel) (pa_cons (pv 3) pa_nil)) (pa_cons (pv 1) pa_nil))))))))
    (pss_one (ps_ret (pe_ifExp (pt_val (pe_call (ok_law_same T.toTA1) (hr.mono (by decide)) rfl T.law_same.m T.law_same.F.kp T.law_same.b .nil pass0 (pa_cons (pv 3) (pa_cons (pv 0) pa_nil)))) (pv 4) pe_non))))), ?_⟩
  have l16 := hk.1
  refine ⟨_, rfl, a, _, rfl, .inl (SqL.of ha), fun c hc => ?_⟩
  have e1 := Ex.new (o := .lst (ns.map V.int)) hc
  have hc1 : upd H c (.lst (ns.map V.int)) c = some (.lst (ns.map V.int)) := upd_same
  have ha1 := e1 _ _ ha
  generalize upd H c (.lst (ns.map V.int)) = H1 at e1 hc1 ha1 ⊢
  have fin : ∀ p (ts : List Addr) H2, Ex H1 H2 → H1 p = none → H2 p = some (.lst (ts.map V.ref)) → StrAt H2 ts (stairsM m ns) → ts.Nodup → (∀ t ∈ ts, H1 t = none ∧ t ≠ p) →
      tRet (tIf (tB (tCall (spSame K 8) [] E0 (tCons (tVar 3) (tCons (tVar 0) tNil)))) (tVar 4) (tC V.non)) { nx := fun x H' => Q V.non H', rt := Q } [some (.ref a), some (.int (m : Int)), some (.int named), some (.ref c), some (.ref p)] H2 := fun p ts H2 e2 hp hp2 sa nd fr => by
    refine ⟨_, rfl, _, rfl, _, _, rfl, ?_, fun H3 e3 => ⟨true, rfl, iteT ⟨_, rfl, q p ts H3 (e1.trans (e2.trans e3)) (fresh_back e1 hp) (e3 _ _ hp2) (sa.ex e3) nd fun t ht => ⟨fresh_back e1 (fr t ht).1, (fr t ht).2⟩⟩⟩⟩
    exact .lst (SqL.of (e2 _ _ hc1)) (SqL.of (e2 _ _ ha1)) rfl (by rw [List.length_map]; omega) Sm.ints
  refine ⟨_, rfl, rfl, _, rfl, ite2 (fun _ => ?_) (fun _ => ?_)⟩
  · exact ⟨_, rfl, _, rfl, c, m, ns, rfl, .inl hc1, hk, hm, fun p ts H2 e2 hp hp2 sa nd fr => fin p ts H2 e2 hp hp2 sa nd fr⟩
  · refine ⟨_, rfl, rfl, _, rfl, ite2 (fun _ => ?_) (fun _ => ?_)⟩
    · exact ⟨_, rfl, _, rfl, c, m, ns, rfl, .inl hc1, hk, hm, fun p ts H2 e2 hp hp2 sa nd fr => fin p ts H2 e2 hp hp2 sa nd fr⟩
    · refine ⟨_, rfl, c, _, rfl, .inl ⟨SqL.of hc1, fun t ht => ?_⟩⟩
      have e2 := Ex.new (o := .tup (ns.map V.int)) ht
      exact ⟨_, rfl, t, m, ns, rfl, .inr upd_same, hk, hm, fun p ts H2 e3 hp hp2 sa nd fr => q p ts H2 (e1.trans (e2.trans e3)) (fresh_back (e1.trans e2) hp) hp2 sa nd fun t ht => ⟨fresh_back (e1.trans e2) (fr t ht).1, (fr t ht).2⟩⟩
def spLHeld (K : PySem.W.Frag) (C : Addr) : Sp := fun vs H Q _ => ∃ (a : Addr) (m : Nat) (ns : List Int) (x : V) (d : PyData) (n : Nat) (named : Int), vs = [.ref a, .int (m : Int), x, .int named] ∧ H a = some (.lst (ns.map V.int)) ∧ RowOk ns ∧ m ≤ 16 ∧ Ro K C (Lv H) H n x d ∧ n ≤ 5 ∧
  ∀ H', Ex H H' → Q (.bl (holdD (stairsM m ns) d)) H'
theorem ok_law_held (T : TK K mg) : FnOk P w K mg base CX0 16 T.law_held.a T.law_held.fd ["row", "most", "value", "named"] (spLHeld K T.C) := by
  refine T.law_held.F.ok sc_law_held (fun vs H Q E h => ?_) (fun cdv A outer s H vs Q E hr h => ?_)
  · obtain ⟨a, m, ns, x, d, n, named, rfl, _⟩ := h; rfl
  obtain ⟨a, m, ns, x, d, n, named, rfl, ha, hk, hm, hx, hn, q⟩ := h
  refine ⟨_, (pss_cons (ps_par (i := 4) (j := 5) (by rfl) sc_law_held.nd rfl rfl (by decide) rfl rfl (pa_cons (pe_callTy (klist K) (by rfl) T.z_list (by decide +kernel) (pa_cons (pv 0) pa_nil)) (pa_cons (pe_call (ok_law_copy T) (hr.mono (by decide)) rfl T.law_copy.m T.law_copy.F.kp T.law_copy.b .nil pass0 (pa_cons (pv 2) pa_nil)) pa_nil)) (by rfl))
    (pss_cons (ps_if (pt_cmpR op_eq (pv 3) pe_int (nomark _)) (pss_one (ps_set (i := 6) sc_law_held.nd rfl (Or.inl rfl) (pe_call (okc_stairs_hold T) (hr.mono (by decide)) rfl T.stairs_hold.m T.stairs_hold.F.kp T.stairs_hold.b .nil pass0 (pa_cons (pv 4) (pa_cons (pv 1) (pa_cons (pv 5) pa_nil)))))) (pss_one (ps_set (i := 6) sc_law_held.nd rfl (Or.inl rfl) (by exact (pe_callKw (okc_stairs_hold T) (hr.mono (by decide)) rfl T.stairs_hold.m T.stairs_hold.F.kp T.kb_stairs_hold_value_most_row (fun σ => pass0At) (pk_cons (pv 5) (pk_cons (pv 1) (pk_cons (pv 4) pk_nil))))))))
    (pss_one (ps_ret (pe_ifExp (PW.pt (pw_and (pt_val (pe_call (ok_law_same T.toTA1) (hr.mono (by decide)) rfl T.law_same.m T.law_same.F.kp T.law_same.b .nil pass0 (pa_cons (pv 4) (pa_cons (pv 0) pa_nil)))) (pw_and1 (pt_val (pe_call (ok_law_stayed T) (hr.mono (by decide)) rfl T.law_stayed.m T.law_stayed.F.kp T.law_stayed.b .nil pass0 (pa_cons (pv 5) (pa_cons (pv 2) pa_nil))))))) (pv 6) pe_non))))), ?_⟩
  have l16 := hk.1
  refine ⟨_, rfl, a, _, rfl, .inl (SqL.of ha), fun c hc => ?_⟩
  have e1 := Ex.new (o := .lst (ns.map V.int)) hc
  have hc1 : upd H c (.lst (ns.map V.int)) c = some (.lst (ns.map V.int)) := upd_same
  have ha1 := e1 _ _ ha
  have live : ∀ a, Lv H a → Lv (upd H c (.lst (ns.map V.int))) a := fun a ⟨o, h⟩ => ⟨o, e1 _ _ h⟩
  generalize upd H c (.lst (ns.map V.int)) = H1 at e1 hc1 ha1 live ⊢
  refine ⟨_, rfl, x, d, n, rfl, (hx.ex e1).of live, fun y H2 e2 ry cy => ⟨_, _, rfl, ?_⟩⟩
  have fin : ∀ H3, Ex H2 H3 → tRet (tIf (tAnd (tB (tCall (spSame K 8) [] E0 (tCons (tVar 4) (tCons (tVar 0) tNil)))) (tB (tCall (spStay K T.C 6) [] E0 (tCons (tVar 5) (tCons (tVar 2) tNil))))) (tVar 6) (tC V.non)) { nx := fun x H' => Q V.non H', rt := Q } [some (.ref a), some (.int (m : Int)), some x, some (.int named), some (.ref c), some y, some (.bl (holdD (stairsM m ns) d))] H3 := fun H3 e3 => by
    have e23 := e2.trans e3
    refine ⟨_, rfl, _, rfl, _, _, rfl, .lst (SqL.of (e23 _ _ hc1)) (SqL.of (e23 _ _ ha1)) rfl (by rw [List.length_map]; omega) Sm.ints, fun H4 e4 => ⟨true, rfl, iteT ?_⟩⟩
    exact ⟨_, rfl, _, rfl, y, x, n, rfl, (cy.ex e3).ex e4, by omega, by omega, fun H5 e5 => ⟨true, rfl, iteT ⟨_, rfl, q H5 (e1.trans (e23.trans (e4.trans e5)))⟩⟩⟩
  refine ⟨_, rfl, rfl, _, rfl, ite2 (fun _ => ?_) (fun _ => ?_)⟩
  · exact ⟨_, rfl, _, rfl, _, rfl, c, m, ns, y, d, n, _, rfl, .inl (e2 _ _ hc1), hk, hm, ry, by omega, fun H3 e3 => fin H3 e3⟩
  · exact ⟨_, rfl, _, rfl, _, rfl, c, m, ns, y, d, n, _, rfl, .inl (e2 _ _ hc1), hk, hm, ry, by omega, fun H3 e3 => fin H3 e3⟩
end
end L2.U


set_option Elab.async false
set_option linter.all false
set_option maxRecDepth 100000
set_option maxHeartbeats 4000000
namespace L2.U
open PySem PySem.Spec PyProof.Rows Evl


section
variable {P : Program} {w : World} {K : PySem.W.Frag} {mg : Str → Option Value} {base : Heap}
theorem ne_empty {ta : TE} {σ : L2.St} {H : Hp} {xs : List V} (hx : xs = []) (h : EvL ta σ H xs) : Ev (tOp (rNeD K) ta (tLst tNil)) σ H (.bl false) := by
  subst hx
  exact ev_opLL h (el_lst ea_nil (Nat.zero_le _)) fun p q H1 hp hq _ => rv_val fun H2 e2 Q k =>
    ⟨.list [], .list [], .lst (SqL.of (e2 _ _ hp)) .nil, .lst (SqL.of (e2 _ _ hq)) .nil, rfl, rfl, k⟩
def spRight (K : PySem.W.Frag) : Sp := fun vs H Q _ => ∃ (a : Addr) (m : Nat) (ns : List Int) (y : V) (n : Nat) (ok : Addr → Prop) (nm : Int) (ag : Bool), vs = [.ref a, .int (m : Int), y, .int nm, .bl ag] ∧ H a = some (.lst (ns.map V.int)) ∧ RowOk ns ∧ m ≤ 16 ∧ Rd K ok H n y (linesP (stairsM m ns)) ∧ n ≤ 8 ∧ 0 ≤ nm ∧
  ∀ H', Ex H H' → Q (.bl true) H'
theorem ok_law_told_right (T : TK K mg) : FnOk P w K mg base CX0 11 T.law_told_right.a T.law_told_right.fd ["row", "most", "due", "named", "again"] (spRight K) := by
  refine T.law_told_right.F.ok sc_law_told_right (fun vs H Q E h => ?_) (fun cdv A outer s H vs Q E hr h => ?_)
  · obtain ⟨a, m, ns, y, n, ok, nm, ag, rfl, _⟩ := h; rfl
  obtain ⟨a, m, ns, y, n, ok, nm, ag, rfl, ha, hk, hm, hy, hn, nm0, q⟩ := h
  refine ⟨_, (pss_cons (ps_set (i := 5) sc_law_told_right.nd rfl (Or.inl rfl) (pe_call (ok_law_told T) (hr.mono (by decide)) rfl T.law_told.m T.law_told.F.kp T.law_told.b .nil pass0 (pa_cons (pv 0) (pa_cons (pv 1) (pa_cons (pv 3) pa_nil)))))
    (pss_cons (ps_if (pt_not (pt_val (pe_call (ok_law_same T.toTA1) (hr.mono (by decide)) rfl T.law_same.m T.law_same.F.kp T.law_same.b .nil pass0 (pa_cons (pv 5) (pa_cons (pv 2) pa_nil))))) (pss_one (ps_ret pe_bl)) pss_nil)
    (pss_cons (ps_for PassesOwn.never rfl (kpil K (pv 5)) (pg_name (i := 6) sc_law_told_right.nd rfl (Or.inl rfl)) (pss_one (ps_expr (pe_bm PySem.F.plainAttrs_list PySem.F.slot_list_append PySem.F.type_list_append mt_append (pv 6) (pa_cons (pv 1) pa_nil)))))
    (pss_cons (ps_if (pt_cmpR (kneD K hr.units) (pe_lc (own := [("line", 6)]) (g := gName 6) (by rfl) sc_law_told_right.nd (kpil K (pv 5)) (blkOk_by (own := [("line", 6)]) (N := ["row", "most", "due", "named", "again", "told", "line"]) (sc := defScope s_law_told_right) (by decide +kernel)) (fun _ _ _ _ _ => (pg_name (i := 6) sc_law_told_right.nd rfl (Or.inl rfl))) (fun _ _ _ _ _ => (pts_one (pt_cmpR op_ne (pe_callB (klen K) (by rfl) T.z_len (by decide +kernel) (pa_cons (pv 6) pa_nil)) (pe_op op_add (pv 1) pe_int) (nomark _)))) (fun _ _ _ _ _ => (pv 6))) (pe_lst pa_nil) (nomark _)) (pss_one (ps_ret pe_bl)) pss_nil)
    (pss_cons (ps_expr (pe_bm0 PySem.F.plainAttrs_list PySem.F.slot_list_pop PySem.F.type_list_pop mt_pop (pv 5)))
    (pss_one (ps_ret (pe_or (pe_not (pv 4)) (pe_one (pe_call (ok_law_same T.toTA1) (hr.mono (by decide)) rfl T.law_same.m T.law_same.F.kp T.law_same.b .nil pass0 (pa_cons (pe_call (ok_law_told T) (hr.mono (by decide)) rfl T.law_told.m T.law_told.F.kp T.law_told.b .nil pass0 (pa_cons (pv 0) (pa_cons (pv 1) (pa_cons (pe_op op_mod (pe_callTy call_int1 (by rfl) T.z_int (by decide +kernel) (pa_cons (pe_op op_add (pv 3) pe_int) pa_nil)) pe_int) pa_nil)))) (pa_cons (pv 2) pa_nil)))))))))))), ?_⟩
  have l16 := hk.1
  have Sl := stairsM_len m ns
  have same : ∀ {H1 : Hp} {p : Addr} {ts : List Addr}, Ex H H1 → H1 p = some (.lst (ts.map V.ref)) → StrAt H1 ts (stairsM m ns) → Sm K H1 8 (.ref p) y := fun {H1 p ts} e1 hp1 sa => by
    have r1 : Rd K (fun _ => True) H1 (6 + 2) (.ref p) (linesP (stairsM m ns)) := rd_lines hp1 sa trivial (fun _ _ => trivial) (by omega) (fun s hs => by rw [stairsM_in s hs]; omega)
    exact r1.sm ((hy.ex e1).le hn)
  refine ⟨_, rfl, _, rfl, _, rfl, a, m, ns, nm, rfl, ha, hk, hm, fun p ts H1 e1 hp hp1 sa nd fr => ?_⟩
  refine ⟨_, rfl, _, rfl, _, _, rfl, same e1 hp1 sa, fun H2 e2 => ⟨true, rfl, iteF ?_⟩⟩
  have e12 := e1.trans e2
  have hp2 := e2 _ _ hp1
  have sa2 := sa.ex e2
  have tl : ts.length = ns.length + 1 := by rw [sa.1, Sl]
  have pw := List.pairwise_iff_getElem.mp nd
  have ne : ∀ (i k : Nat) (t u : Addr), ts[i]? = some t → ts[k]? = some u → i ≠ k → t ≠ u := fun i k t u ht hu hik z => by
    obtain ⟨hi, rfl⟩ := List.getElem?_eq_some_iff.mp ht
    obtain ⟨hk2, rfl⟩ := List.getElem?_eq_some_iff.mp hu
    rcases Nat.lt_or_gt_of_ne hik with h | h
    · exact pw i k hi hk2 h z
    · exact pw k i hk2 hi h z.symm
  refine ⟨_, rfl, p, rfl, ⟨_, SqL.of hp2⟩, for_list (xs := ts.map V.ref) (fun i σ H' => Ex H H' ∧ H' p = some (.lst (ts.map V.ref)) ∧ (∀ (k : Nat) (t : Addr) (s : List (Option Int)), ts[k]? = some t → (stairsM m ns)[k]? = some s → H' t = some (.lst (s.map optV ++ if k < i then [V.int (m : Int)] else []))) ∧ ∃ v6, σ = [some (.ref a), some (.int (m : Int)), some y, some (.int nm), some (.bl ag), some (.ref p), v6])
    ⟨e12, hp2, (fun k t s ht hs => by rw [if_neg (Nat.not_lt_zero _), List.append_nil]; exact sa2.2 k t s ht hs), _, rfl⟩ (fun i σ H' _ h => SqL.of h.2.1) ?_ ?_⟩
  · rintro i v σ H' hi ⟨eh, hp', al, v6, rfl⟩
    rw [List.getElem?_map, Option.map_eq_some_iff] at hi
    obtain ⟨t, ht, rfl⟩ := hi
    have hit := (List.getElem?_eq_some_iff.mp ht).1
    obtain ⟨s, hs⟩ : ∃ s, (stairsM m ns)[i]? = some s := ⟨_, List.getElem?_eq_getElem (by omega)⟩
    have h1 := al i t s ht hs
    rw [if_neg (Nat.lt_irrefl _), List.append_nil] at h1
    have f := fr t (List.mem_of_getElem? ht)
    have sl := stairsM_in s (List.mem_of_getElem? hs)
    refine gn_ ⟨_, rfl, .inl ⟨rfl, _, SqL.of h1⟩, _, rfl, t, _, _, rfl, rfl, h1, small1000 (by rw [List.length_map]; omega), eh.mut f.1, by rw [upd_ne (fun z => f.2 z.symm)]; exact hp', fun k u s' hu hs' => ?_, _, rfl⟩
    by_cases c : k = i
    · subst c
      rw [ht] at hu
      cases Option.some.inj hu
      rw [hs] at hs'
      cases Option.some.inj hs'
      rw [upd_same, if_pos (Nat.lt_succ_self _)]
    · rw [upd_ne (ne k i u t hu ht c), al k u s' hu hs']
      by_cases c2 : k < i
      · rw [if_pos c2, if_pos (by omega)]
      · rw [if_neg c2, if_neg (by omega)]
  · rintro σ H3 ⟨e3, hp3, al, v6, rfl⟩
    have el := el_lcL (K := K) (σ := [some (.ref a), some (.int (m : Int)), some y, some (.int nm), some (.bl ag), some (.ref p), v6]) (H := H3) (a := p) (xs := ts.map V.ref) (tl := tVar 5) (j := 6) (vs := [6]) (te := tVar 6) (t := tTest (tOp rNe (tCB (rLen K) (tCons (tVar 6) tNil)) (tOp (rI0 fun i j => V.int (i + j)) (tVar 1) (tC (V.int 2))))) (fun _ => false) (fun _ => V.non) (ev_var rfl) (SqL.of hp3) (by rw [List.length_map]; omega) (fun _ => rfl) (fun i x H4 e4 hx => by
      rw [List.getElem?_map, Option.map_eq_some_iff] at hx
      obtain ⟨t, ht, rfl⟩ := hx
      have hit := (List.getElem?_eq_some_iff.mp ht).1
      obtain ⟨s, hs⟩ : ∃ s, (stairsM m ns)[i]? = some s := ⟨_, List.getElem?_eq_getElem (by omega)⟩
      have h1 := al i t s ht hs
      rw [if_pos (by rw [List.length_map]; exact hit)] at h1
      have sl := stairsM_in s (List.mem_of_getElem? hs)
      have := ev_op (σ := [some (.ref a), some (.int (m : Int)), some y, some (.int nm), some (.bl ag), some (.ref p), some (.ref t)]) (H := H4) (ta := tCB (rLen K) (tCons (tVar 6) tNil)) (tb := tOp (rI0 fun i j => V.int (i + j)) (tVar 1) (tC (V.int 2))) (x := .int ((m : Int) + 2)) (r := rNe) (fun H5 e5 Q q => ⟨_, rfl, _, m + 2, rfl, .inl ⟨_, SqL.of ((e4.trans e5) _ _ h1), by rw [List.length_append, List.length_map, List.length_singleton, sl]⟩, q _ (Ex.refl _)⟩) (ev_op (ev_var rfl) ev_c rv_I0) (rv_ne rfl)
      rw [decide_eq_true rfl] at this
      exact et_test this) (fun i x H4 e4 hx hf => by cases hf)
    rw [no_given] at el
    have ev := ne_empty (K := K) rfl el
    refine ev H3 (Ex.refl _) _ fun H4 e4 => ⟨false, rfl, iteF ?_⟩
    have hp4 := e4 _ _ hp3
    have e34 := e3.trans e4
    obtain ⟨z, hz⟩ : ∃ z, (ts.map V.ref)[(ts.map V.ref).length - 1]? = some z := ⟨_, List.getElem?_eq_getElem (by rw [List.length_map]; omega)⟩
    refine ⟨_, rfl, .inl ⟨rfl, _, SqL.of hp4⟩, p, _, z, rfl, rfl, hp4, hz, ?_⟩
    have e5 : Ex H (upd H4 p (.lst (ts.map V.ref).dropLast)) := e34.mut hp
    generalize upd H4 p (.lst (ts.map V.ref).dropLast) = H5 at e5 ⊢
    cases ag with
    | false => exact ⟨_, rfl, _, rfl, _, rfl, iteT (q H5 e5)⟩
    | true =>
      refine ⟨_, rfl, _, rfl, _, rfl, iteF ?_⟩
      refine ⟨_, rfl, _, rfl, _, rfl, _, _, rfl, rfl, .inl ⟨_, rfl, _, _, rfl, rfl, (by show (0 : Int) < 3; decide), a, m, ns, _, rfl, e5 _ _ ha, hk, hm, fun p' ts' H6 e6 _ hp6 sa6 _ _ => ⟨_, rfl, _, _, rfl, same (e5.trans e6) hp6 sa6, fun H7 e7 => q H7 (e5.trans (e6.trans e7))⟩⟩⟩
end
end L2.U


set_option Elab.async false
set_option linter.all false
set_option maxRecDepth 100000
set_option maxHeartbeats 4000000
namespace L2.U
open PySem PySem.Spec PyProof.Rows Evl


section
variable {P : Program} {w : World} {K : PySem.W.Frag} {mg : Str → Option Value} {base : Heap}
def spcW : List V := [.str "wires", .int 1]
def spcL : List V := [.str "letters", .int 1, .int 1]
theorem rd_spcW {H : Hp} {a : Addr} (h : H a = some (.tup spcW)) : Rd K (fun _ => True) H 1 (.ref a) (.tuple [.str "wires", .int 1]) := by
  refine .tup (SqT.of h) trivial rfl (by show 2 ≤ 900; decide) fun i x d hx hd => ?_
  match i, hx, hd with
  | 0, hx, hd => cases Option.some.inj hx; cases Option.some.inj hd; exact .str _ (by decide +kernel) (by decide +kernel)
  | 1, hx, hd => cases Option.some.inj hx; cases Option.some.inj hd; exact .int _
theorem rd_spcL {H : Hp} {a : Addr} (h : H a = some (.tup spcL)) : Rd K (fun _ => True) H 1 (.ref a) (.tuple [.str "letters", .int 1, .int 1]) := by
  refine .tup (SqT.of h) trivial rfl (by show 3 ≤ 900; decide) fun i x d hx hd => ?_
  match i, hx, hd with
  | 0, hx, hd => cases Option.some.inj hx; cases Option.some.inj hd; exact .str _ (by decide +kernel) (by decide +kernel)
  | 1, hx, hd => cases Option.some.inj hx; cases Option.some.inj hd; exact .int _
  | 2, hx, hd => cases Option.some.inj hx; cases Option.some.inj hd; exact .int _
def spIsSpec : Sp := fun vs H Q _ => ∃ a : Addr, vs = [.ref a] ∧ (H a = some (.tup spcW) ∨ H a = some (.tup spcL)) ∧ ∀ H', Ex H H' → Q (.bl true) H'
theorem ok_is_spec (T : TK K mg) : FnOk P w K mg base CX0 4 T.is_spec.a T.is_spec.fd ["value"] spIsSpec := by
  refine T.is_spec.F.ok sc_is_spec (fun vs H Q E h => ?_) (fun cdv A outer s H vs Q E hr h => ?_)
  · obtain ⟨a, rfl, _⟩ := h; rfl
  obtain ⟨a, rfl, h, q⟩ := h
  refine ⟨_, (pss_cons (ps_if (PW.pt (pw_or (pt_not (pt_val (pe_callB (kisi K) (by rfl) T.z_isinstance (by decide +kernel) (pa_cons (pv 0) (pa_cons (pe_bltn (v := .ty "tuple") rfl T.z_tuple (by decide +kernel) rfl) pa_nil))))) (pw_or1 (pt_cmpR (keqD K hr.units) (pv 0) (pe_tup pa_nil) (nomark _))))) (pss_one (ps_ret pe_bl)) pss_nil)
    (pss_cons (ps_if (pt_cmpR op_eq (pe_ix (kixt K) (pv 0) pe_int (fun _ _ => rfl)) pe_str (nomark _)) (pss_one (ps_ret (pe_and (pe_cmpR op_eq (pe_callB (klen K) (by rfl) T.z_len (by decide +kernel) (pa_cons (pv 0) pa_nil)) pe_int (nomark _)) (pe_one (pe_call (ok_are_between T.toTA2) (hr.mono (by decide)) rfl T.are_between.m T.are_between.F.kp T.are_between.b .nil pass0 (pa_cons (pe_slice (kslT K) (pv 0) (po_some pe_int) po_none) (pa_cons pe_int (pa_cons (pe_glob (v := .int 8) rfl T.c_MOST_LETTERS ⟨_, rfl⟩) pa_nil)))))))) pss_nil)
    (pss_cons (ps_if (pt_cmpR op_eq (pe_ix (kixt K) (pv 0) pe_int (fun _ _ => rfl)) pe_str (nomark _)) (pss_one (ps_ret (pe_and (pe_cmpR op_eq (pe_callB (klen K) (by rfl) T.z_len (by decide +kernel) (pa_cons (pv 0) pa_nil)) pe_int (nomark _)) (pe_one (pe_call (ok_is_between T.toTA1) (hr.mono (by decide)) rfl T.is_between.m T.is_between.F.kp T.is_between.b .nil pass0 (pa_cons (pe_ix (kixt K) (pv 0) pe_int (fun _ _ => rfl)) (pa_cons pe_int (pa_cons (pe_glob (v := .int 10) rfl T.c_MOST_WIRES ⟨_, rfl⟩) pa_nil)))))))) pss_nil)
    (pss_one (ps_ret pe_bl))))), ?_⟩
  have sh0 : ∀ {H : Hp} {z : Addr}, H z = some (.tup []) → Rd K (fun _ => True) H 1 (.ref z) (.tuple []) := fun h => .tup (SqT.of h) trivial rfl (Nat.zero_le _) (fun i x d hx _ => by cases hx)
  rcases h with h | h
  · refine ⟨_, rfl, _, _, _, _, true, rfl, .ty _, tyT (SqT.of h), kit_ty (by decide +kernel), _, rfl, iteF ⟨_, rfl, Nat.zero_le _, fun z hz => ?_⟩⟩
    have e1 := Ex.new (o := .tup []) hz
    have h1 := e1 _ _ h
    have r := rd_spcW (K := K) h1
    have r0 := sh0 (upd_same (H := H) (a := z) (o := .tup []))
    refine ⟨_, _, r.dp, r0.dp, r.shaped (by omega), r0.shaped (by omega), _, rfl, iteF ?_⟩
    refine ⟨_, rfl, _, _, _, _, rfl, rfl, SqT.of h1, at_of (show (0 : Int) = ((0 : Nat) : Int) from rfl) rfl, rfl, _, rfl, iteF ?_⟩
    refine ⟨_, rfl, _, _, _, _, rfl, rfl, SqT.of h1, at_of (show (0 : Int) = ((0 : Nat) : Int) from rfl) rfl, rfl, _, rfl, iteT ?_⟩
    refine ⟨_, rfl, _, _, rfl, .inr ⟨_, SqT.of h1, rfl⟩, rfl, _, rfl, iteT ?_⟩
    refine ⟨_, rfl, _, _, _, _, rfl, rfl, SqT.of h1, at_of (show (1 : Int) = ((1 : Nat) : Int) from rfl) rfl, .int 1, 0, 10, rfl, Dat.int, fun b hb _ => ?_⟩
    rw [hb 1 rfl]
    exact q _ e1
  · refine ⟨_, rfl, _, _, _, _, true, rfl, .ty _, tyT (SqT.of h), kit_ty (by decide +kernel), _, rfl, iteF ⟨_, rfl, Nat.zero_le _, fun z hz => ?_⟩⟩
    have e1 := Ex.new (o := .tup []) hz
    have h1 := e1 _ _ h
    have r := rd_spcL (K := K) h1
    have r0 := sh0 (upd_same (H := H) (a := z) (o := .tup []))
    refine ⟨_, _, r.dp, r0.dp, r.shaped (by omega), r0.shaped (by omega), _, rfl, iteF ?_⟩
    refine ⟨_, rfl, _, _, _, _, rfl, rfl, SqT.of h1, at_of (show (0 : Int) = ((0 : Nat) : Int) from rfl) rfl, rfl, _, rfl, iteT ?_⟩
    refine ⟨_, rfl, _, _, rfl, .inr ⟨_, SqT.of h1, rfl⟩, rfl, _, rfl, iteT ?_⟩
    refine ⟨_, rfl, 1, rfl, a, _, rfl, SqT.of h1, fun z => ?_, fun _ p hp => ?_⟩
    · exact absurd z.1 (by show ¬ HT.sIx 3 0 (some 1) = 0; decide)
    have hc : cutV spcL (some 1) none = [.int 1, .int 1] := rfl
    rw [hc]
    have e2 := Ex.new (o := .tup [.int 1, .int 1]) hp
    exact ⟨.ref p, .tuple [.int 1, .int 1], 1, fun _ => True, 0, 8, rfl, .tup (SqT.of upd_same) trivial rfl (by show 2 ≤ 900; decide) (fun i x d hx hd => by
      match i, hx, hd with
      | 0, hx, hd => cases Option.some.inj hx; cases Option.some.inj hd; exact .int _
      | 1, hx, hd => cases Option.some.inj hx; cases Option.some.inj hd; exact .int _), rfl, fun H' e => q H' (e1.trans (e2.trans e))⟩
def spLnInit (C : Addr) : Sp := fun vs H Q _ => ∃ (p dx a : Addr), vs = [.ref p, .ref a] ∧ H p = some (.ins C dx []) ∧ (H a = some (.tup spcW) ∨ H a = some (.tup spcL)) ∧ ∀ fs H', But p H H' → H' p = some (.ins C dx fs) → Q .non H'
theorem ok_Line_init (T : TK K mg) : FnOk P w K mg base CX0 5 T.m_init.a T.m_init.fd ["self", "spec"] (spLnInit T.C) := by
  refine T.m_init.F.ok sc_Line_init (fun vs H Q E h => ?_) (fun cdv A outer s H vs Q E hr h => ?_)
  · obtain ⟨p, dx, a, rfl, _⟩ := h; rfl
  obtain ⟨p, dx, a, rfl, hp, ha, q⟩ := h
  refine ⟨_, (pss_cons (ps_if (pt_not (pt_val (pe_call (ok_is_spec T) (hr.mono (by decide)) rfl T.is_spec.m T.is_spec.F.kp T.is_spec.b .nil pass0 (pa_cons (pv 1) pa_nil)))) pss_never pss_nil)
    (pss_cons (ps_fld (pv 0) (pv 1) rfl)
    (pss_cons (ps_fld (pv 0) (pe_lst (pa_cons (pe_lst pa_nil) (pa_cons (pe_lst pa_nil) pa_nil))) rfl)
    (pss_one (ps_fld (pv 0) (pe_lst (pa_cons (pe_lst pa_nil) (pa_cons (pe_lst pa_nil) pa_nil))) rfl))))), ?_⟩
  refine ⟨_, rfl, a, rfl, ha, fun H1 e1 => ⟨true, rfl, iteF ?_⟩⟩
  refine ⟨_, rfl, _, rfl, _, _, _, _, rfl, e1 _ _ hp, T.cl, T.n_spec, by decide, ?_⟩
  refine ⟨(by show 0 ≤ sizeLine; decide), fun a0 h0 => ⟨(by show 0 ≤ sizeLine; decide), fun a1 h1 => ⟨(by show 2 ≤ sizeLine; decide), fun sb h2 => ?_⟩⟩⟩
  generalize hg1 : upd H1 p (HO.ins T.C dx (putF (Str.ofString "spec") (V.ref a) [])) = G1 at h0 h1 h2 ⊢
  have g1p : G1 p = some (.ins T.C dx [("spec", .ref a)]) := by rw [← hg1, upd_same]; rfl
  have k1 : But p H G1 := by rw [← hg1]; exact But.pre e1 But.upd
  have f4 : Ex G1 (upd (upd (upd G1 a0 (.lst [])) a1 (.lst [])) sb (.lst [.ref a0, .ref a1])) := ((Ex.new h0).trans (Ex.new h1)).trans (Ex.new h2)
  generalize upd (upd (upd G1 a0 (.lst [])) a1 (.lst [])) sb (.lst [.ref a0, .ref a1]) = G4 at f4 ⊢
  refine ⟨_, rfl, _, _, _, _, rfl, f4 _ _ g1p, T.cl, T.n_sent, (by show 1 < 1000; decide), ?_⟩
  refine ⟨(by show 0 ≤ sizeLine; decide), fun d0 h5 => ⟨(by show 0 ≤ sizeLine; decide), fun d1 h6 => ⟨(by show 2 ≤ sizeLine; decide), fun cb h7 => ?_⟩⟩⟩
  generalize hg5 : upd G4 p (HO.ins T.C dx (putF (Str.ofString "_sent_by") (V.ref sb) [(Str.ofString "spec", V.ref a)])) = G5 at h5 h6 h7 ⊢
  have g5p : G5 p = some (.ins T.C dx [("spec", .ref a), ("_sent_by", .ref sb)]) := by rw [← hg5, upd_same]; rfl
  have k5 : But p G4 G5 := by rw [← hg5]; exact But.upd
  have f8 : Ex G5 (upd (upd (upd G5 d0 (.lst [])) d1 (.lst [])) cb (.lst [.ref d0, .ref d1])) := ((Ex.new h5).trans (Ex.new h6)).trans (Ex.new h7)
  generalize upd (upd (upd G5 d0 (.lst [])) d1 (.lst [])) cb (.lst [.ref d0, .ref d1]) = G8 at f8 ⊢
  refine ⟨_, rfl, _, _, _, _, rfl, f8 _ _ g5p, T.cl, T.n_came, (by show 2 < 1000; decide), ?_⟩
  exact q _ _ ((k1.trans (But.of f4)).trans (k5.trans ((But.of f8).trans But.upd))) upd_same
end
end L2.U


set_option Elab.async false
set_option linter.all false
set_option maxRecDepth 100000
set_option maxHeartbeats 4000000
namespace L2.U
open PySem PySem.Spec PyProof.Rows Evl


section
variable {P : Program} {w : World} {K : PySem.W.Frag} {mg : Str → Option Value} {base : Heap}
/-! ### values that are made -/
abbrev PV := (Addr → Prop) → V → Hp → Prop
def okS (S : Addr → Prop) (H : Hp) : Addr → Prop := fun a => Lv H a ∧ ¬ S a
def Av (K : PySem.W.Frag) (C : Addr) (n : Nat) : PV := fun S v H => ∃ d, Ro K C (okS S H) H n v d
def RV (K : PySem.W.Frag) (n : Nat) : PV := fun S v H => ∃ d, Rd K (okS S H) H n v d
def LP (P : PV) (lo hi : Nat) : PV := fun S v H => ∃ p xs, v = .ref p ∧ H p = some (.lst xs) ∧ ¬ S p ∧ lo ≤ xs.length ∧ xs.length ≤ hi ∧ ∀ x ∈ xs, P S x H
def addS (S : Addr → Prop) (D : Addr) : Addr → Prop := fun a => S a ∨ a = D
structure Cl (P : PV) : Prop where
  ex : ∀ {S x H H'}, Ex H H' → P S x H → P S x H'
  new : ∀ {S x H D}, H D = none → P S x H → P (addS S D) x H
  mt : ∀ {S x H D zs us}, S D → H D = some (.lst zs) → P S x H → P S x (upd H D (.lst us))
  less : ∀ {S S' : Addr → Prop} {x H}, (∀ a, S' a → S a) → P S x H → P S' x H
theorem okS_ex {S : Addr → Prop} {H H' : Hp} (e : Ex H H') : ∀ a, okS S H a → okS S H' a := fun a h => ⟨h.1.elim fun o ho => ⟨o, e _ _ ho⟩, h.2⟩
theorem okS_new {S : Addr → Prop} {H : Hp} {D : Addr} (hD : H D = none) : ∀ a, okS S H a → okS (addS S D) H a := fun a h => ⟨h.1, fun z => z.elim h.2 fun e => h.1.ne hD e⟩
theorem okS_mut {S : Addr → Prop} {H : Hp} {D : Addr} {us : List V} : ∀ a, okS S H a → okS S (upd H D (.lst us)) a := fun a h => ⟨by
  by_cases c : a = D
  · exact ⟨.lst us, by rw [c, upd_same]⟩
  · exact h.1.elim fun o ho => ⟨o, by rw [upd_ne c]; exact ho⟩, h.2⟩
theorem okS_less {S S' : Addr → Prop} {H : Hp} (w : ∀ a, S' a → S a) : ∀ a, okS S H a → okS S' H a := fun a h => ⟨h.1, fun z => h.2 (w a z)⟩
theorem okS_ne {S : Addr → Prop} {H : Hp} {D : Addr} (hD : S D) : ∀ a, okS S H a → a ≠ D := fun a h z => h.2 (z ▸ hD)
theorem cl_av {C : Addr} {n : Nat} : Cl (Av K C n) where
  ex e h := h.elim fun d r => ⟨d, (r.ex e).of (okS_ex e)⟩
  new hD h := h.elim fun d r => ⟨d, r.of (okS_new hD)⟩
  mt hD hz h := h.elim fun d r => ⟨d, (r.but hz But.upd (okS_ne hD)).of okS_mut⟩
  less w h := h.elim fun d r => ⟨d, r.of (okS_less w)⟩
theorem cl_rv {n : Nat} : Cl (RV K n) where
  ex e h := h.elim fun d r => ⟨d, (r.ex e).of (okS_ex e)⟩
  new hD h := h.elim fun d r => ⟨d, r.of (okS_new hD)⟩
  mt hD hz h := h.elim fun d r => ⟨d, (r.but But.upd (okS_ne hD)).of okS_mut⟩
  less w h := h.elim fun d r => ⟨d, r.of (okS_less w)⟩
theorem cl_lp {P : PV} {lo hi : Nat} (c : Cl P) : Cl (LP P lo hi) where
  ex e h := by
    obtain ⟨p, xs, rfl, hp, sp, l0, l1, al⟩ := h
    exact ⟨p, xs, rfl, e _ _ hp, sp, l0, l1, fun x hx => c.ex e (al x hx)⟩
  new hD h := by
    obtain ⟨p, xs, rfl, hp, sp, l0, l1, al⟩ := h
    exact ⟨p, xs, rfl, hp, fun z => z.elim sp fun e => (Lv.ne hD ⟨_, hp⟩ e), l0, l1, fun x hx => c.new hD (al x hx)⟩
  mt hD hz h := by
    obtain ⟨p, xs, rfl, hp, sp, l0, l1, al⟩ := h
    exact ⟨p, xs, rfl, (upd_ne (fun z => sp (by rw [z]; exact hD))).trans hp, sp, l0, l1, fun x hx => c.mt hD hz (al x hx)⟩
  less w h := by
    obtain ⟨p, xs, rfl, hp, sp, l0, l1, al⟩ := h
    exact ⟨p, xs, rfl, hp, fun z => sp (w p z), l0, l1, fun x hx => c.less w (al x hx)⟩
theorem pick_ds {α : Type} {P : V → α → Prop} : ∀ {xs : List V}, (∀ x ∈ xs, ∃ d, P x d) → ∃ ds : List α, xs.length = ds.length ∧ ∀ (i : Nat) (x : V) (d : α), xs[i]? = some x → ds[i]? = some d → P x d
  | [], _ => ⟨[], rfl, fun i x d h _ => by cases h⟩
  | x :: xs, h => by
    obtain ⟨d, hd⟩ := h x List.mem_cons_self
    obtain ⟨ds, hl, al⟩ := pick_ds fun y hy => h y (List.mem_cons_of_mem _ hy)
    refine ⟨d :: ds, by rw [List.length_cons, List.length_cons, hl], fun i y e hy he => ?_⟩
    cases i with
    | zero => cases Option.some.inj hy; cases Option.some.inj he; exact hd
    | succ i => exact al i y e hy he
section
variable {C : Addr} {n lo hi lo' hi' : Nat} {S : Addr → Prop} {v : V} {H : Hp} {P P' : PV}
theorem Av.up (h : LP (Av K C n) lo hi S v H) (l : hi ≤ 900) : Av K C (n + 1) S v H := by
  obtain ⟨p, xs, rfl, hp, sp, l0, l1, al⟩ := h
  obtain ⟨ds, hl, ald⟩ := pick_ds al
  exact ⟨_, .lst hp ⟨⟨_, hp⟩, sp⟩ hl (by omega) ald⟩
theorem RV.up (h : LP (RV K n) lo hi S v H) (l : hi ≤ 900) : RV K (n + 1) S v H := by
  obtain ⟨p, xs, rfl, hp, sp, l0, l1, al⟩ := h
  obtain ⟨ds, hl, ald⟩ := pick_ds al
  exact ⟨_, .lst hp ⟨⟨_, hp⟩, sp⟩ hl (by omega) ald⟩
theorem RV.av (h : RV K n S v H) : Av K C n S v H := h.elim fun d r => ⟨d, .rd r⟩
theorem Av.succ (h : Av K C n S v H) : Av K C (n + 1) S v H := h.elim fun d r => ⟨d, r.succ⟩
theorem LP.mono (w : ∀ x, P S x H → P' S x H) (l : lo' ≤ lo) (u : hi ≤ hi') (h : LP P lo hi S v H) : LP P' lo' hi' S v H := by
  obtain ⟨p, xs, rfl, hp, sp, l0, l1, al⟩ := h
  exact ⟨p, xs, rfl, hp, sp, by omega, by omega, fun x hx => w x (al x hx)⟩
end
def EvM (te : TE) (σ : L2.St) (H : Hp) (R : V → Hp → Prop) : Prop := ∀ H1, Ex H H1 → ∀ Q : VK, (∀ v H2, Ex H1 H2 → R v H2 → Q v H2) → te σ H1 Q
def EvN (ta : TA) (σ : L2.St) (H : Hp) (R : V → Hp → Prop) (k : Nat) : Prop := ∀ H1, Ex H H1 → ∀ Q : List V → Hp → Prop, (∀ vs H2, Ex H1 H2 → vs.length = k → (∀ v ∈ vs, R v H2) → Q vs H2) → ta σ H1 Q
section
variable {C : Addr} {n lo hi lo' hi' k : Nat} {S : Addr → Prop} {v : V} {H : Hp} {P P' : PV} {σ : L2.St} {te tb : TE} {ta : TA}
theorem em_of (c : Cl P) (h : Ev te σ H v) (r : P S v H) : EvM te σ H (P S) := fun H1 e1 Q q => h H1 e1 _ fun H2 e2 => q v H2 e2 (c.ex (e1.trans e2) r)
theorem em_imp (h : EvM te σ H (P S)) (w : ∀ v H', P S v H' → P' S v H') : EvM te σ H (P' S) := fun H1 e1 Q q => h H1 e1 _ fun v H2 e2 r => q v H2 e2 (w v H2 r)
theorem en_nil {R : V → Hp → Prop} : EvN tNil σ H R 0 := fun H1 e1 Q q => q [] H1 (Ex.refl _) rfl (fun v h => by cases h)
theorem en_cons (c : Cl P) (h : EvM te σ H (P S)) (t : EvN ta σ H (P S) k) : EvN (tCons te ta) σ H (P S) (k + 1) := fun H1 e1 Q q =>
  h H1 e1 _ fun v H2 e2 r => t H2 (e1.trans e2) _ fun vs H3 e3 l al => q (v :: vs) H3 (e2.trans e3) (by rw [List.length_cons, l]) fun u hu => by
    rcases List.mem_cons.mp hu with rfl | hu
    · exact c.ex e3 r
    · exact al u hu
def Ct (S : Addr → Prop) (H : Hp) : Prop := ∀ a, S a → Lv H a
theorem Ct.ex {H' : Hp} (e : Ex H H') (h : Ct S H) : Ct S H' := fun a ha => (h a ha).elim fun o ho => ⟨o, e _ _ ho⟩
theorem Ct.fresh {H' : Hp} {p : Addr} (h : Ct S H) (e : Ex H H') (hp : H' p = none) : ¬ S p := fun z => (h p z).elim fun o ho => by
  rw [e _ _ ho] at hp
  cases hp
theorem em_list (c : Cl P) (hS : Ct S H) (h : EvN ta σ H (P S) k) (hk : k ≤ 100) : EvM (tLst ta) σ H (LP P k k S) := fun H1 e1 Q q =>
  h H1 e1 _ fun vs H2 e2 l al => ⟨Nat.le_of_lt (small1000 (by omega)), fun p hp => q _ _ (e2.trans (Ex.new hp)) ⟨p, vs, rfl, upd_same, hS.fresh (e1.trans e2) hp, by omega, by omega, fun x hx => c.ex (Ex.new hp) (al x hx)⟩⟩
theorem em_cat (c : Cl P) (hS : Ct S H) (h1 : EvM te σ H (LP P lo hi S)) (h2 : EvM tb σ H (LP P lo' hi' S)) (l : hi + hi' ≤ 900) : EvM (tOp rCat te tb) σ H (LP P (lo + lo') (hi + hi') S) := fun H1 e1 Q q =>
  h1 H1 e1 _ fun u H2 e2 r2 => h2 H2 (e1.trans e2) _ fun v H3 e3 r3 => by
    obtain ⟨p, xs, rfl, hp, sp, l0, l1, al⟩ := (cl_lp c).ex e3 r2
    obtain ⟨p', xs', rfl, hp', sp', l0', l1', al'⟩ := r3
    refine ⟨p, p', xs, xs', rfl, rfl, hp, hp', Nat.le_of_lt (small1000 (by omega)), fun z hz => q _ _ (e2.trans (e3.trans (Ex.new hz))) ⟨z, _, rfl, upd_same, hS.fresh (e1.trans (e2.trans e3)) hz, by rw [List.length_append]; omega, by rw [List.length_append]; omega, fun x hx => ?_⟩⟩
    rcases List.mem_append.mp hx with hx | hx
    · exact c.ex (Ex.new hz) (al x hx)
    · exact c.ex (Ex.new hz) (al' x hx)
theorem cut_mem {xs : List V} {l u : Option Int} {x : V} (h : x ∈ cutV xs l u) : x ∈ xs := by
  unfold cutV at h
  exact List.mem_of_mem_drop (List.mem_of_mem_take h)
theorem em_sl {tl th : TO} {l u : Option Int} (c : Cl P) (hS : Ct S H) (h : EvM te σ H (LP P lo hi S)) (h1 : EvO tl σ H l) (h2 : EvO th σ H u) : EvM (tSl (rSlL K) te tl th) σ H (LP P 0 hi S) := fun H1 e1 Q q =>
  h H1 e1 _ fun v H2 e2 r => h1 H2 (e1.trans e2) _ fun H3 e3 => h2 H3 (e1.trans (e2.trans e3)) _ fun H4 e4 => by
    obtain ⟨p, xs, rfl, hp, sp, l0, l1, al⟩ := (cl_lp c).ex (e3.trans e4) r
    exact ⟨p, xs, rfl, SqL.of hp, fun z hz => q _ _ (e2.trans (e3.trans (e4.trans (Ex.new hz)))) ⟨z, _, rfl, upd_same, hS.fresh (e1.trans (e2.trans (e3.trans e4))) hz, Nat.zero_le _, Nat.le_trans cutV_len l1, fun x hx => c.ex (Ex.new hz) (al x (cut_mem hx))⟩⟩
theorem em_tupOf (hS : Ct S H) (h : EvM te σ H (LP (RV K n) lo hi S)) (l : hi ≤ 900) : EvM (tCB (rTupOf K) (tCons te tNil)) σ H (RV K (n + 1) S) := fun H1 e1 Q q =>
  h H1 e1 _ fun v H2 e2 r => by
    obtain ⟨p, xs, rfl, hp, sp, l0, l1, al⟩ := r
    refine ⟨p, xs, rfl, .inl ⟨SqL.of hp, fun z hz => q _ _ (e2.trans (Ex.new hz)) ?_⟩⟩
    obtain ⟨ds, hl, ald⟩ := pick_ds (P := fun x d => Rd K (okS S (upd H2 z (.tup xs))) (upd H2 z (.tup xs)) n x d) fun x hx => (cl_rv (K := K) (n := n)).ex (Ex.new hz) (al x hx)
    exact ⟨_, .tup (SqT.of upd_same) ⟨⟨_, upd_same⟩, hS.fresh (e1.trans e2) hz⟩ hl (by omega) ald⟩
theorem em_dict : EvM tDNewK σ H (Av K C n S) := fun H1 e1 Q q p hp => q _ _ (Ex.new hp) ⟨_, .dct upd_same⟩
theorem em_tup0 (hS : Ct S H) : EvM (tTup tNil) σ H (RV K (n + 1) S) := fun H1 e1 Q q => ⟨Nat.zero_le _, fun p hp => q _ _ (Ex.new hp) ⟨.tuple [], .tup (SqT.of upd_same) ⟨⟨_, upd_same⟩, hS.fresh e1 hp⟩ rfl (Nat.zero_le _) (fun i x d hx _ => by cases hx)⟩⟩
theorem em_lc {j : Nat} {vs : List Nat} (c : Cl P) (c' : Cl P') (hS : Ct S H) (h : EvM te σ H (LP P lo hi S)) (l : hi ≤ 900) (hw : ∀ x, wipe ((wipe σ vs).set j (some x)) vs = wipe σ vs)
    (he : ∀ (S' : Addr → Prop) (H1 : Hp) (x : V), Ct S' H1 → (∀ {P0 : PV} {v : V}, Cl P0 → P0 S v H → P0 S' v H1) → P S' x H1 → EvM tb ((wipe σ vs).set j (some x)) H1 (P' S')) : EvM (tLc (iList K te) (gName j) tYes tb vs) σ H (LP P' lo hi S) := fun H1 e1 Q q =>
  h H1 e1 _ fun v G e2 r => by
    obtain ⟨a, xs, rfl, ha, sa, l0, l1, al⟩ := r
    have hSG := hS.ex (e1.trans e2)
    refine ⟨a, rfl, ⟨_, SqL.of ha⟩, lc_gen (K := K) (fun D i y H' => P' (addS S D) y H') ha (by omega) hw (fun D i y H1 H2 e r => c'.ex e r) (fun D i y H1 zs us hz r => c'.mt (.inr rfl) hz r) (fun D i x H2 zs hD e3 hDz hx Q2 q2 => ?_) (fun p ys H' e3 hp hpy hyl hys => ?_)⟩
    · refine he (addS S D) H2 x (fun a ha => ha.elim (fun z => (hSG.ex e3) a z) fun z => ⟨_, z ▸ hDz⟩) (fun {P0 v} c0 h0 => c0.ex e3 (c0.new hD (c0.ex (e1.trans e2) h0))) (c.ex e3 (c.new hD (al x (List.mem_of_getElem? hx)))) H2 (Ex.refl _) _ q2
    · refine q _ _ (e2.trans e3) ⟨p, ys, rfl, hpy, hSG.fresh (Ex.refl _) hp, by omega, by omega, fun y hy => ?_⟩
      obtain ⟨i, hi⟩ := List.mem_iff_getElem?.mp hy
      exact c'.less (fun a z => .inl z) (hys i y hi)
theorem em_make (T : TK K mg) (hS : Ct S H) (hsp : EvU te σ H spcW ∨ EvU te σ H spcL) : EvM (tMakeX T.C (spLnInit T.C) (fun _ => E0) (tCons te tNil)) σ H (Av K T.C n S) := fun H1 e1 Q q => by
  have go : ∀ a H2, Ex H1 H2 → (H2 a = some (.tup spcW) ∨ H2 a = some (.tup spcL)) → ∀ x dx, H2 x = none → H2 dx = none → dx ≠ x → spLnInit T.C [.ref x, .ref a] (upd (upd H2 dx (.own x)) x (.ins T.C dx [])) (fun v H3 => v = .non ∧ Q (.ref x) H3) E0 := fun a H2 e2 ha x dx hx hdx hne => by
    have ax : a ≠ x := fun z => by rw [z, hx] at ha; rcases ha with h | h <;> cases h
    have adx : a ≠ dx := fun z => by rw [z, hdx] at ha; rcases ha with h | h <;> cases h
    refine ⟨x, dx, a, rfl, upd_same, by rw [upd_ne ax, upd_ne adx]; exact ha, fun fs H3 k3 hx3 => ⟨rfl, q _ _ ?_ ⟨_, .own hx3⟩⟩⟩
    refine e2.trans fun b o hb => k3 b o (fun z => by rw [z, hx] at hb; cases hb) ?_
    rw [upd_ne (fun z => by rw [z, hx] at hb; cases hb), upd_ne (fun z => by rw [z, hdx] at hb; cases hb)]
    exact hb
  rcases hsp with h | h
  · exact h H1 e1 _ fun a H2 _ e2 ha => go a H2 e2 (.inl ha)
  · exact h H1 e1 _ fun a H2 _ e2 ha => go a H2 e2 (.inr ha)
end
end
end L2.U


set_option Elab.async false
set_option linter.all false
set_option maxRecDepth 100000
set_option maxHeartbeats 4000000
namespace L2.U
open PySem PySem.Spec PyProof.Rows Evl


section
variable {P : Program} {w : World} {K : PySem.W.Frag} {mg : Str → Option Value} {base : Heap}
structure DueAt (S : Addr → Prop) (m : Nat) (H : Hp) (p : Addr) (ts : List Addr) (Ls : List (List (Option Int))) : Prop where
  hp : H p = some (.lst (ts.map V.ref))
  sa : StrAt H ts Ls
  np : ¬ S p
  nt : ∀ t ∈ ts, ¬ S t
  l0 : 1 ≤ Ls.length
  l1 : Ls.length ≤ 17
  ln : ∀ s ∈ Ls, s.length = m + 1
  lm : m ≤ 16
section
variable {S : Addr → Prop} {m : Nat} {H H' : Hp} {p D t : Addr} {ts : List Addr} {Ls : List (List (Option Int))} {C : Addr}
theorem DueAt.ex (e : Ex H H') (h : DueAt S m H p ts Ls) : DueAt S m H' p ts Ls := ⟨e _ _ h.hp, h.sa.ex e, h.np, h.nt, h.l0, h.l1, h.ln, h.lm⟩
theorem DueAt.live (h : DueAt S m H p ts Ls) {i : Nat} {t : Addr} (ht : ts[i]? = some t) : ∃ s, Ls[i]? = some s ∧ H t = some (.lst (s.map optV)) ∧ s.length = m + 1 := by
  have hi := (List.getElem?_eq_some_iff.mp ht).1
  have hs : Ls[i]? = some (Ls[i]'(by have := h.sa.1; omega)) := List.getElem?_eq_getElem _
  exact ⟨_, hs, h.sa.2 i t _ ht hs, h.ln _ (List.mem_of_getElem? hs)⟩
theorem DueAt.new (hD : H D = none) (h : DueAt S m H p ts Ls) : DueAt (addS S D) m H p ts Ls := ⟨h.hp, h.sa, fun z => z.elim h.np fun e => Lv.ne hD ⟨_, h.hp⟩ e, fun t ht z => z.elim (h.nt t ht) fun e => by
  obtain ⟨i, hi⟩ := List.mem_iff_getElem?.mp ht
  obtain ⟨s, _, hs, _⟩ := h.live hi
  exact Lv.ne hD ⟨_, hs⟩ e, h.l0, h.l1, h.ln, h.lm⟩
theorem DueAt.line (h : DueAt S m H p ts Ls) (ht : t ∈ ts) : LP (RV K 0) 1 17 S (.ref t) H := by
  obtain ⟨i, hi⟩ := List.mem_iff_getElem?.mp ht
  obtain ⟨s, _, hs, hl⟩ := h.live hi
  have := h.lm
  refine ⟨t, _, rfl, hs, h.nt t ht, by rw [List.length_map]; omega, by rw [List.length_map]; omega, fun x hx => ?_⟩
  obtain ⟨o, _, rfl⟩ := List.mem_map.mp hx
  exact ⟨_, rd_opt o⟩
theorem DueAt.lp (h : DueAt S m H p ts Ls) : LP (LP (RV K 0) 1 17) 1 17 S (.ref p) H := by
  have := h.sa.1
  have := h.l0
  have := h.l1
  refine ⟨p, _, rfl, h.hp, h.np, by rw [List.length_map]; omega, by rw [List.length_map]; omega, fun x hx => ?_⟩
  obtain ⟨t, ht, rfl⟩ := List.mem_map.mp hx
  exact h.line ht
theorem DueAt.lpA (h : DueAt S m H p ts Ls) : LP (Av K C 1) 1 17 S (.ref p) H := h.lp.mono (fun x r => (RV.up r (by omega)).av) (Nat.le_refl _) (Nat.le_refl _)
theorem DueAt.lineA (h : DueAt S m H p ts Ls) (ht : t ∈ ts) : LP (Av K C 0) 1 17 S (.ref t) H := (h.line ht).mono (fun x r => r.av) (Nat.le_refl _) (Nat.le_refl _)
end
theorem evx {te : TE} {σ : L2.St} {H H' : Hp} {v : V} (h : Ev te σ H v) (e : Ex H H') : Ev te σ H' v := fun H1 e1 => h H1 (e.trans e1)
theorem ev_ixl {σ : L2.St} {H : Hp} {p : Addr} {xs : List V} {i : Nat} {v : V} {ta tb : TE} (ha : Ev ta σ H (.ref p)) (hp : H p = some (.lst xs)) (hb : Ev tb σ H (.int (i : Int))) (hv : xs[i]? = some v) : Ev (tOp (rIxL K) ta tb) σ H v :=
  ev_op ha hb (rv_ixL (SqL.of hp) (atI_nat hv))
theorem map_ref {ts : List Addr} {i : Nat} {t : Addr} (h : ts[i]? = some t) : (ts.map V.ref)[i]? = some (.ref t) := by rw [List.getElem?_map, h]; rfl
theorem map_opt {s : List (Option Int)} {i : Nat} {o : Option Int} (h : s[i]? = some o) : (s.map optV)[i]? = some (optV o) := by rw [List.getElem?_map, h]; rfl
/-- a list with one item put in: xs[:i] + [x] + xs[i + 1:] -/
theorem em_mid {P : PV} {S : Addr → Prop} {σ : L2.St} {H : Hp} {te ti tx : TE} {lo hi i : Nat} (c : Cl P) (hS : Ct S H) (h : EvM te σ H (LP P lo hi S)) (hi2 : Ev ti σ H (.int (i : Int))) (hx : EvM tx σ H (P S)) (l : hi ≤ 400) :
    EvM (tOp rCat (tOp rCat (tSl (rSlL K) te tNoPart (tPart ti)) (tLst (tCons tx tNil))) (tSl (rSlL K) te (tPart (tOp (rI0 fun i j => V.int (i + j)) ti (tC (V.int 1)))) tNoPart)) σ H (LP P 1 (2 * hi + 1) S) := by
  have := em_cat c hS (em_cat c hS (em_sl (K := K) c hS h eo_none (eo_some hi2)) (em_list c hS (en_cons c hx en_nil) (by omega)) (by omega)) (em_sl (K := K) c hS h (eo_some (ev_op (z := V.int ((i : Int) + 1)) hi2 ev_c (rv_I0 (g := fun i j => V.int (i + j)) (i := (i : Int)) (j := 1)))) eo_none) (by omega)
  exact fun H1 e1 Q q => this H1 e1 Q fun v H2 e2 r => q v H2 e2 (r.mono (fun x h => h) (by omega) (by omega))
def spTruths (K : PySem.W.Frag) (C : Addr) : Sp := fun vs H Q _ => ∃ (S : Addr → Prop) (m : Nat) (p : Addr) (ts : List Addr) (Ls : List (List (Option Int))), vs = [.ref p] ∧ Ct S H ∧ DueAt S m H p ts Ls ∧ ∀ v H', Ex H H' → LP (Av K C 2) 0 600 S v H' → Q v H'
theorem ok_law_truths (T : TK K mg) : FnOk P w K mg base CX0 1 T.law_truths.a T.law_truths.fd ["due"] (spTruths K T.C) := by
  refine T.law_truths.F.ok sc_law_truths (fun vs H Q E h => ?_) (fun cdv A outer s H vs Q E hr h => ?_)
  · obtain ⟨S, m, p, ts, Ls, rfl, _⟩ := h; rfl
  obtain ⟨S, m, p, ts, Ls, rfl, hS, hd, q⟩ := h
  refine ⟨_, (pss_cons (ps_set (i := 1) sc_law_truths.nd rfl (Or.inl rfl) (pe_lst pa_nil))
    (pss_cons (ps_for PassesOwn.never rfl (pi_range1 rfl T.z_range (pa_cons (pe_callB (klen K) (by rfl) T.z_len (by decide +kernel) (pa_cons (pv 0) pa_nil)) pa_nil)) (pg_name (i := 2) sc_law_truths.nd rfl (Or.inl rfl)) (pss_one (ps_for PassesOwn.never rfl (pi_range1 rfl T.z_range (pa_cons (pe_callB (klen K) (by rfl) T.z_len (by decide +kernel) (pa_cons (pe_ix (kixl K) (pv 0) (pv 2) (fun _ _ => rfl)) pa_nil)) pa_nil)) (pg_name (i := 3) sc_law_truths.nd rfl (Or.inl rfl)) (pss_one (ps_if (PW.pt (pw_and (pt_cmpR op_notN (pe_ix (kixl K) (pe_ix (kixl K) (pv 0) (pv 2) (fun _ _ => rfl)) (pv 3) (fun _ _ => rfl)) pe_non (nomark _)) (pw_and1 (pt_cmpR op_lt (pe_ix (kixl K) (pe_ix (kixl K) (pv 0) (pv 2) (fun _ _ => rfl)) (pv 3) (fun _ _ => rfl)) pe_int (nomark _))))) (pss_one (ps_expr (pe_bm PySem.F.plainAttrs_list PySem.F.slot_list_append PySem.F.type_list_append mt_append (pv 1) (pa_cons (pe_op op_cat (pe_op op_cat (pe_slice (kslL K) (pv 0) po_none (po_some (pv 2))) (pe_lst (pa_cons (pe_op op_cat (pe_op op_cat (pe_slice (kslL K) (pe_ix (kixl K) (pv 0) (pv 2) (fun _ _ => rfl)) po_none (po_some (pv 3))) (pe_lst (pa_cons (pe_cmpR op_eq (pe_ix (kixl K) (pe_ix (kixl K) (pv 0) (pv 2) (fun _ _ => rfl)) (pv 3) (fun _ _ => rfl)) pe_int (nomark _)) pa_nil))) (pe_slice (kslL K) (pe_ix (kixl K) (pv 0) (pv 2) (fun _ _ => rfl)) (po_some (pe_op op_add (pv 3) pe_int)) po_none)) pa_nil))) (pe_slice (kslL K) (pv 0) (po_some (pe_op op_add (pv 2) pe_int)) po_none)) pa_nil)))) pss_nil)))))
    (pss_one (ps_ret (pe_op op_cat (pe_slice (kslL K) (pv 1) (po_some (pe_un un_neg pe_int)) po_none) (pe_slice (kslL K) (pv 1) po_none (po_some pe_int))))))), ?_⟩
  refine el_seq (i := 1) (xs := []) (el_lst ea_nil (Nat.zero_le _)) fun F H1 hF e1 hF1 => ?_
  have tl := hd.sa.1
  have d0 := hd.l0
  have d1 := hd.l1
  have dm := hd.lm
  have hdF := hd.new hF
  have sF : addS S F F := .inr rfl
  have ctF : ∀ {G : Hp}, Ex H G → Lv G F → Ct (addS S F) G := fun e l a ha => ha.elim (fun z => (hS.ex e) a z) fun z => z ▸ l
  refine ⟨_, rfl, _, ts.length, rfl, .inl ⟨_, SqL.of (e1 _ _ hd.hp), (List.length_map ..).symm⟩, (ts.length : Int), rfl, by omega, by omega, for_range (lo := 0) (n := (ts.length : Int).toNat) (fun i σ H' => Ex H H' ∧ ∃ (xs : List V) (v2 v3 : Option V), H' F = some (.lst xs) ∧ xs.length ≤ 17 * i ∧ (∀ x ∈ xs, Av K T.C 2 (addS S F) x H') ∧ σ = [some (.ref p), some (.ref F), v2, v3])
    ⟨e1, [], _, _, hF1, Nat.zero_le _, (fun x hx => by cases hx), rfl⟩ ?_ ?_⟩
  · rintro i σ H' hi ⟨eh, xs, v2, v3, hFx, hlx, hax, rfl⟩
    rw [Int.zero_add]
    obtain ⟨t, ht⟩ : ∃ t, ts[i]? = some t := ⟨_, List.getElem?_eq_getElem (by omega)⟩
    have tm := List.mem_of_getElem? ht
    obtain ⟨s, hs, hts, sl⟩ := (hd.ex eh).live ht
    refine gn_ ⟨_, rfl, _, rfl, _, _, _, _, rfl, rfl, SqL.of (eh _ _ hd.hp), atI_nat (map_ref ht), _, m + 1, rfl, .inl ⟨_, SqL.of hts, by rw [List.length_map, sl]⟩, ((m + 1 : Nat) : Int), rfl, by omega, by omega, for_range (lo := 0) (n := ((m + 1 : Nat) : Int).toNat) (fun n σ G => Ex H G ∧ ∃ (xs : List V) (v3 : Option V), G F = some (.lst xs) ∧ xs.length ≤ 17 * i + n ∧ (∀ x ∈ xs, Av K T.C 2 (addS S F) x G) ∧ σ = [some (.ref p), some (.ref F), some (.int (i : Int)), v3])
      ⟨eh, xs, _, hFx, hlx, hax, rfl⟩ ?_ ?_⟩
    · rintro n σ G hn ⟨eg, zs, v3, hFz, hlz, haz, rfl⟩
      rw [Int.zero_add]
      have hnm : n < m + 1 := by omega
      obtain ⟨o, ho⟩ : ∃ o, s[n]? = some o := ⟨_, List.getElem?_eq_getElem (by omega)⟩
      have dg := hdF.ex eg
      have htg : G t = some (.lst (s.map optV)) := by
        obtain ⟨s', hs', hts', _⟩ := dg.live ht
        rw [hs] at hs'
        cases Option.some.inj hs'
        exact hts'
      refine gn_ ?_
      have it1 : Ev (tOp (rIxL K) (tVar 0) (tVar 2)) [some (.ref p), some (.ref F), some (.int (i : Int)), some (.int (n : Int))] G (.ref t) := ev_ixl (ev_var rfl) dg.hp (ev_var rfl) (map_ref ht)
      have it : Ev (tOp (rIxL K) (tOp (rIxL K) (tVar 0) (tVar 2)) (tVar 3)) [some (.ref p), some (.ref F), some (.int (i : Int)), some (.int (n : Int))] G (optV o) := ev_ixl it1 htg (ev_var rfl) (map_opt ho)
      refine it G (Ex.refl _) _ fun G1 eg1 => ⟨rfl, _, rfl, ?_⟩
      have nxt : ∀ G2 us, Ex H G2 → G2 F = some (.lst us) → us.length ≤ 17 * i + (n + 1) → (∀ x ∈ us, Av K T.C 2 (addS S F) x G2) → Ex H G2 ∧ ∃ (xs : List V) (v3 : Option V), G2 F = some (.lst xs) ∧ xs.length ≤ 17 * i + (n + 1) ∧ (∀ x ∈ xs, Av K T.C 2 (addS S F) x G2) ∧ [some (V.ref p), some (.ref F), some (.int (i : Int)), some (.int (n : Int))] = [some (.ref p), some (.ref F), some (.int (i : Int)), v3] := fun G2 us e h l a => ⟨e, us, _, h, l, a, rfl⟩
      cases o with
      | none => exact iteF (iteF (nxt G1 zs (eg.trans eg1) (eg1 _ _ hFz) (by omega) fun x hx => cl_av.ex eg1 (haz x hx)))
      | some z =>
        refine iteT (it G1 eg1 _ fun G2 eg2 => ⟨_, _, rfl, rfl, _, rfl, ?_⟩)
        have e2 := eg1.trans eg2
        refine ite2 (fun c => ?_) (fun c => nxt G2 zs (eg.trans e2) (e2 _ _ hFz) (by omega) fun x hx => cl_av.ex e2 (haz x hx))
        have hF2 := e2 _ _ hFz
        have ct := ctF (eg.trans e2) ⟨_, hF2⟩
        have d2 := dg.ex e2
        have ln := em_mid (K := K) (P := Av K T.C 0) (S := addS S F) (σ := [some (.ref p), some (.ref F), some (.int (i : Int)), some (.int (n : Int))]) (H := G2) (te := tOp (rIxL K) (tVar 0) (tVar 2)) (ti := tVar 3) (tx := tOp rEq (tOp (rIxL K) (tOp (rIxL K) (tVar 0) (tVar 2)) (tVar 3)) (tC (V.int 1))) (i := n) cl_av ct
          (em_of (cl_lp cl_av) (evx it1 e2) (d2.lineA tm)) (ev_var rfl) (em_of cl_av (ev_op (evx it e2) (ev_c (v := .int 1)) (rv_eq (x := .int z) (y := .int 1) rfl)) ⟨_, .bl _⟩) (by omega)
        have ls := em_mid (K := K) (P := Av K T.C 1) (S := addS S F) (σ := [some (.ref p), some (.ref F), some (.int (i : Int)), some (.int (n : Int))]) (H := G2) (te := tVar 0) (ti := tVar 2) (i := i) cl_av ct
          (em_of (cl_lp cl_av) (ev_var rfl) d2.lpA) (ev_var rfl) (em_imp ln fun v H' r => Av.up r (by omega)) (by omega)
        refine ⟨_, rfl, .inl ⟨rfl, _, SqL.of hF2⟩, ls G2 (Ex.refl _) _ fun v G3 eg3 r3 => ⟨F, _, _, rfl, rfl, eg3 _ _ hF2, small1000 (by omega), ?_⟩⟩
        have r3 := Av.up r3 (by omega)
        refine nxt _ _ ((eg.trans (e2.trans eg3)).mut hF) upd_same (by rw [List.length_append, List.length_singleton]; omega) fun x hx => ?_
        rcases List.mem_append.mp hx with hx | hx
        · exact cl_av.mt sF (eg3 _ _ hF2) (cl_av.ex (e2.trans eg3) (haz x hx))
        · rw [List.mem_singleton] at hx
          rw [hx]
          exact cl_av.mt sF (eg3 _ _ hF2) r3
    · rintro σ G ⟨eg, zs, v3, hFz, hlz, haz, rfl⟩
      exact ⟨eg, zs, _, _, hFz, by omega, haz, rfl⟩
  · rintro σ G ⟨eg, zs, v2, v3, hFz, hlz, haz, rfl⟩
    have F0 : ¬ S F := fun z => (hS F z).elim fun o ho => by rw [hF] at ho; cases ho
    have lpF : LP (Av K T.C 2) 0 289 S (.ref F) G := ⟨F, zs, rfl, hFz, F0, Nat.zero_le _, by omega, fun x hx => cl_av.less (fun a h => .inl h) (haz x hx)⟩
    have ct := hS.ex eg
    have neg1 : Ev (tUn (rU fun i => V.int (-i)) (tC (V.int 1))) [some (.ref p), some (.ref F), v2, v3] G (.int (-1)) := ev_un ev_c (fun H1 e Q k => ⟨1, rfl, k H1 (Ex.refl _)⟩)
    have r := em_cat (P := Av K T.C 2) cl_av ct (em_sl (K := K) cl_av ct (em_of (σ := [some (.ref p), some (.ref F), v2, v3]) (te := tVar 1) (cl_lp cl_av) (ev_var rfl) lpF) (eo_some neg1) eo_none) (em_sl (K := K) cl_av ct (em_of (σ := [some (.ref p), some (.ref F), v2, v3]) (te := tVar 1) (cl_lp cl_av) (ev_var rfl) lpF) eo_none (eo_some (ev_c (v := .int 1)))) (by omega)
    exact r G (Ex.refl _) _ fun v H2 e2 r2 => q v H2 (eg.trans e2) (r2.mono (fun x h => h) (by omega) (by omega))
end
end L2.U


set_option Elab.async false
set_option linter.all false
set_option maxRecDepth 100000
set_option maxHeartbeats 4000000
namespace L2.U
open PySem PySem.Spec PyProof.Rows Evl


section
variable {P : Program} {w : World} {K : PySem.W.Frag} {mg : Str → Option Value} {base : Heap}
section
variable {C : Addr} {n lo hi lo' hi' k : Nat} {S : Addr → Prop} {v : V} {H : Hp} {P P' : PV} {σ : L2.St} {te tb : TE} {ta : TA}
theorem lc_new {j : Nat} {vs : List Nat} {Q : VK} (c : Cl P) (c' : Cl P') (hS : Ct S H) (h : EvM te σ H (LP P lo hi S)) (l : hi ≤ 900) (hw : ∀ x, wipe ((wipe σ vs).set j (some x)) vs = wipe σ vs)
    (he : ∀ (S' : Addr → Prop) (H1 : Hp) (x : V), Ct S' H1 → (∀ {P0 : PV} {v : V}, Cl P0 → P0 S v H → P0 S' v H1) → P S' x H1 → EvM tb ((wipe σ vs).set j (some x)) H1 (P' S'))
    (q : ∀ D xs H2, Ex H H2 → H D = none → H2 D = some (.lst xs) → lo ≤ xs.length → xs.length ≤ hi → (∀ x ∈ xs, P' (addS S D) x H2) → Q (.ref D) H2) : tLc (iList K te) (gName j) tYes tb vs σ H Q :=
  h H (Ex.refl _) _ fun v G e2 r => by
    obtain ⟨a, xs, rfl, ha, sa, l0, l1, al⟩ := r
    have hSG := hS.ex e2
    refine ⟨a, rfl, ⟨_, SqL.of ha⟩, lc_gen (K := K) (fun D i y H' => P' (addS S D) y H') ha (by omega) hw (fun D i y H1 H2 e r => c'.ex e r) (fun D i y H1 zs us hz r => c'.mt (.inr rfl) hz r) (fun D i x H2 zs hD e3 hDz hx Q2 q2 => ?_) (fun p ys H' e3 hp hpy hyl hys => ?_)⟩
    · refine he (addS S D) H2 x (fun a ha => ha.elim (fun z => (hSG.ex e3) a z) fun z => ⟨_, z ▸ hDz⟩) (fun {P0 v} c0 h0 => c0.ex e3 (c0.new hD (c0.ex e2 h0))) (c.ex e3 (c.new hD (al x (List.mem_of_getElem? hx)))) H2 (Ex.refl _) _ q2
    · refine q p ys H' (e2.trans e3) (fresh_back e2 hp) hpy (by omega) (by omega) fun y hy => ?_
      obtain ⟨i, hi⟩ := List.mem_iff_getElem?.mp hy
      exact hys i y hi
theorem em_last (c : Cl P) (h : EvM te σ H (LP P lo hi S)) (l : 1 ≤ lo) : EvM (tOp (rIxL K) te (tUn (rU fun i => V.int (-i)) (tC (V.int 1)))) σ H (P S) := fun H1 e1 Q q =>
  h H1 e1 _ fun v H2 e2 r => by
    obtain ⟨p, xs, rfl, hp, sp, l0, l1, al⟩ := r
    rcases List.eq_nil_or_concat xs with e | ⟨us, x, rfl⟩
    · rw [e] at l0
      exact absurd (show lo ≤ 0 from l0) (by omega)
    · rw [List.concat_eq_append] at hp al
      exact ⟨1, rfl, p, _, -1, x, rfl, rfl, SqL.of hp, at_neg1, q x H2 e2 (al x (by simp))⟩
theorem Av.le {m : Nat} (h : Av K C n S v H) (l : n ≤ m) : Av K C m S v H := h.elim fun d r => ⟨d, r.le l⟩
theorem RV.le {m : Nat} (h : RV K n S v H) (l : n ≤ m) : RV K m S v H := h.elim fun d r => ⟨d, r.le l⟩
theorem em_le {m : Nat} (h : EvM te σ H (Av K C n S)) (l : n ≤ m) : EvM te σ H (Av K C m S) := em_imp h fun v H' r => r.le l
theorem em_up (h : EvM te σ H (LP (Av K C n) lo hi S)) (l : hi ≤ 900) : EvM te σ H (Av K C (n + 1) S) := em_imp h fun v H' r => Av.up r l
theorem em_ex {R : V → Hp → Prop} {H' : Hp} (h : EvM te σ H R) (e : Ex H H') : EvM te σ H' R := fun H1 e1 => h H1 (e.trans e1)
theorem ev_neg1 : Ev (tUn (rU fun i => V.int (-i)) (tC (V.int 1))) σ H (.int (-1)) := ev_un ev_c (fun H1 e Q k => ⟨1, rfl, k H1 (Ex.refl _)⟩)
theorem em_non : EvM (tC .non) σ H (Av K C n S) := em_of cl_av ev_c ⟨_, .non⟩
theorem em_bl (b : Bool) : EvM (tC (.bl b)) σ H (Av K C n S) := em_of cl_av ev_c ⟨_, .bl b⟩
theorem em_int (i : Int) : EvM (tC (.int i)) σ H (Av K C n S) := em_of cl_av ev_c ⟨_, .int i⟩
theorem em_str (s : Str) (h1 : s.length ≤ 1000) (h2 : PyData.strOk s = true) : EvM (tC (.str s)) σ H (Av K C n S) := em_of cl_av ev_c ⟨_, .str s h1 h2⟩
theorem em_evi {i : Int} (h : Ev te σ H (.int i)) : EvM te σ H (Av K C n S) := em_of cl_av h ⟨_, .int i⟩
theorem em_cut1 (hS : Ct S H) (c : Cl P) (h : EvM te σ H (LP P lo hi S)) : EvM (tSl (rSlL K) te tNoPart (tPart (tUn (rU fun i => V.int (-i)) (tC (V.int 1))))) σ H (LP P 0 hi S) := em_sl c hS h eo_none (eo_some ev_neg1)
theorem em_rest1 (hS : Ct S H) (c : Cl P) (h : EvM te σ H (LP P lo hi S)) : EvM (tSl (rSlL K) te (tPart (tC (V.int 1))) tNoPart) σ H (LP P 0 hi S) := em_sl c hS h (eo_some (ev_c (v := .int 1))) eo_none
theorem em_lst1 (c : Cl P) (hS : Ct S H) (h : EvM te σ H (P S)) : EvM (tLst (tCons te tNil)) σ H (LP P 1 1 S) := em_list c hS (en_cons c h en_nil) (by omega)
theorem em_lst0 (hS : Ct S H) : EvM (tLst tNil) σ H (Av K C (n + 1) S) := fun H1 e1 Q q => ⟨Nat.zero_le _, fun p hp => q _ _ (Ex.new hp) ⟨.list [], .lst upd_same ⟨⟨_, upd_same⟩, hS.fresh e1 hp⟩ rfl (Nat.zero_le _) (fun i x d hx _ => by cases hx)⟩⟩
end
theorem DueAt.but {S : Addr → Prop} {m : Nat} {H H' : Hp} {p D : Addr} {ts : List Addr} {Ls : List (List (Option Int))} (hD : S D) (k : But D H H') (h : DueAt S m H p ts Ls) : DueAt S m H' p ts Ls :=
  ⟨k _ _ (fun z => h.np (z ▸ hD)) h.hp, ⟨h.sa.1, fun i t s ht hs => k _ _ (fun z => h.nt t (List.mem_of_getElem? ht) (z ▸ hD)) (h.sa.2 i t s ht hs)⟩, h.np, h.nt, h.l0, h.l1, h.ln, h.lm⟩
theorem DueAt.less {S S' : Addr → Prop} {m : Nat} {H : Hp} {p : Addr} {ts : List Addr} {Ls : List (List (Option Int))} (w : ∀ a, S' a → S a) (h : DueAt S m H p ts Ls) : DueAt S' m H p ts Ls :=
  ⟨h.hp, h.sa, fun z => h.np (w _ z), fun t ht z => h.nt t ht (w _ z), h.l0, h.l1, h.ln, h.lm⟩
theorem set_refs {ts : List Addr} {xs : List V} {i : Nat} {u : Addr} (h : ∀ x ∈ xs, ∃ t ∈ ts, x = .ref t) (hu : u ∈ ts) : ∀ x ∈ xs.set i (.ref u), ∃ t ∈ ts, x = .ref t := fun x hx => by
  rcases List.mem_or_eq_of_mem_set hx with h1 | h1
  · exact h x h1
  · exact ⟨u, hu, h1⟩
theorem set_opts {xs : List V} {i : Nat} {o : Option Int} (h : ∀ x ∈ xs, ∃ o, x = optV o) : ∀ x ∈ xs.set i (optV o), ∃ o, x = optV o := fun x hx => by
  rcases List.mem_or_eq_of_mem_set hx with h1 | h1
  · exact h x h1
  · exact ⟨o, h1⟩
theorem eu_tup {ta : TA} {σ : L2.St} {H : Hp} {xs : List V} (h : EvA ta σ H xs) (hl : xs.length ≤ 900) : EvU (tTup ta) σ H xs := fun H1 e1 Q q =>
  h H1 e1 _ fun H2 e2 => ⟨Nat.le_of_lt (small1000 (by omega)), fun p hp => q p _ (fresh_back e2 hp) (e2.trans (Ex.new hp)) upd_same⟩
def isB (b : Addr) : Addr → Prop := fun a => a = b
theorem isB_self {b : Addr} : isB b b := rfl
def DueP (m : Nat) (p : Addr) (ts : List Addr) (Ls : List (List (Option Int))) (xs : List V) (K : PySem.W.Frag) (C : Addr) : PV := fun S _ H => DueAt S m H p ts Ls ∧ ∀ x ∈ xs, Av K C 2 S x H
theorem cl_due {m : Nat} {p : Addr} {ts : List Addr} {Ls : List (List (Option Int))} {xs : List V} {C : Addr} : Cl (DueP m p ts Ls xs K C) where
  ex e h := ⟨h.1.ex e, fun x hx => cl_av.ex e (h.2 x hx)⟩
  new hD h := ⟨h.1.new hD, fun x hx => cl_av.new hD (h.2 x hx)⟩
  mt hD hz h := ⟨h.1.but hD But.upd, fun x hx => cl_av.mt hD hz (h.2 x hx)⟩
  less w h := ⟨h.1.less w, fun x hx => cl_av.less w (h.2 x hx)⟩
theorem seq_asg {te : TE} {g : TG} {rest : TS} {D : Ends} {σ : L2.St} {H : Hp} (h : te σ H fun v H1 => g v σ H1 (rest D)) : tSeq (tAsg te g) rest D σ H := h
def spNear (K : PySem.W.Frag) (C : Addr) : Sp := fun vs H Q _ => ∃ (b p : Addr) (m k : Nat) (ts : List Addr) (Ls : List (List (Option Int))), vs = [.ref b, .ref p] ∧ BoxAt H b (k + 4) ∧ DueAt (isB b) m H p ts Ls ∧
  ∀ v H', But b H H' → BoxAt H' b k → LP (Av K C 3) 2 900 (isB b) v H' → Q v H'
theorem ok_law_near (T : TK K mg) : FnOk P w K mg base CX0 8 T.law_near.a T.law_near.fd ["box", "due"] (spNear K T.C) := by
  refine T.law_near.F.ok sc_law_near (fun vs H Q E h => ?_) (fun cdv A outer s H vs Q E hr h => ?_)
  · obtain ⟨b, p, m, k, ts, Ls, rfl, _⟩ := h; rfl
  obtain ⟨b, p, m, k, ts, Ls, rfl, hB, hd, q⟩ := h
  refine ⟨_, (pss_cons (ps_asg (pe_tup (pa_cons (pe_call (ok_law_take T.toTA1) (hr.mono (by decide)) rfl T.law_take.m T.law_take.F.kp T.law_take.b .nil pass0 (pa_cons (pv 0) (pa_cons (pe_callB (klen K) (by rfl) T.z_len (by decide +kernel) (pa_cons (pv 1) pa_nil)) pa_nil))) (pa_cons (pe_call (ok_law_take T.toTA1) (hr.mono (by decide)) rfl T.law_take.m T.law_take.F.kp T.law_take.b .nil pass0 (pa_cons (pv 0) (pa_cons (pe_callB (klen K) (by rfl) T.z_len (by decide +kernel) (pa_cons (pv 1) pa_nil)) pa_nil))) (pa_cons (pe_call (ok_law_take T.toTA1) (hr.mono (by decide)) rfl T.law_take.m T.law_take.F.kp T.law_take.b .nil pass0 (pa_cons (pv 0) (pa_cons (pe_callB (klen K) (by rfl) T.z_len (by decide +kernel) (pa_cons (pe_ix (kixl K) (pv 1) pe_int (fun _ _ => rfl)) pa_nil)) pa_nil))) pa_nil)))) (pg_tup (by rfl) (pgs_cons (pg_name (i := 2) sc_law_near.nd rfl (Or.inr rfl)) (pgs_cons (pg_name (i := 3) sc_law_near.nd rfl (Or.inl rfl)) (pgs_cons (pg_name (i := 4) sc_law_near.nd rfl (Or.inr rfl)) pgs_nil)))))
    (pss_cons (ps_par (i := 5) (j := 6) (by rfl) sc_law_near.nd rfl rfl (by decide) rfl rfl (pa_cons (pe_call (ok_law_take T.toTA1) (hr.mono (by decide)) rfl T.law_take.m T.law_take.F.kp T.law_take.b .nil pass0 (pa_cons (pv 0) (pa_cons (pe_callB (klen K) (by rfl) T.z_len (by decide +kernel) (pa_cons (pe_ix (kixl K) (pv 1) pe_int (fun _ _ => rfl)) pa_nil)) pa_nil))) (pa_cons (pe_ix (kixl K) (pe_ix (kixl K) (pv 1) (pv 2) (fun _ _ => rfl)) (pv 4) (fun _ _ => rfl)) pa_nil)) (by rfl))
    (pss_cons (ps_set (i := 7) sc_law_near.nd rfl (Or.inl rfl) (pe_ifExp (pt_cmpR op_notN (pv 6) pe_non (nomark _)) (pv 6) (pe_op op_sub (pe_callB (klen K) (by rfl) T.z_len (by decide +kernel) (pa_cons (pe_ix (kixl K) (pv 1) pe_int (fun _ _ => rfl)) pa_nil)) pe_int)))
    (pss_cons (ps_setLc (i := 8) (own := [("one", 12)]) (g := gName 12) (by rfl) sc_law_near.nd rfl rfl (sw_true rfl rfl rfl (by decide +kernel)) (kpil K (pe_lst (pa_cons pe_non (pa_cons (pv 7) (pa_cons (pe_op op_add (pv 7) pe_int) (pa_cons (pe_op op_sub (pv 7) pe_int) (pa_cons pe_int (pa_cons pe_bl (pa_cons pe_bl (pa_cons pe_str (pa_cons (pe_lst (pa_cons pe_int pa_nil)) pa_nil))))))))))) (blkOk_by (own := [("one", 12)]) (N := ["box", "due", "i", "other", "n", "j", "item", "number", "lines", "turned", "exchanged", "found", "one", "line"]) (sc := defScope s_law_near) (by decide +kernel)) (fun _ _ _ _ _ => (pg_name (i := 12) sc_law_near.nd rfl (Or.inl rfl))) (fun _ _ _ _ _ => pts_nil) (fun _ _ _ _ _ => (pe_op op_cat (pe_op op_cat (pe_slice (kslL K) (pe_ix (kixl K) (pv 1) (pv 2) (fun _ _ => rfl)) po_none (po_some (pv 4))) (pe_lst (pa_cons (pv 12) pa_nil))) (pe_slice (kslL K) (pe_ix (kixl K) (pv 1) (pv 2) (fun _ _ => rfl)) (po_some (pe_op op_add (pv 4) pe_int)) po_none))))
    (pss_cons (ps_par (i := 9) (j := 10) (by rfl) sc_law_near.nd rfl rfl (by decide) rfl rfl (pa_cons (pe_callTy (klist K) (by rfl) T.z_list (by decide +kernel) (pa_cons (pv 1) pa_nil)) (pa_cons (pe_callTy (klist K) (by rfl) T.z_list (by decide +kernel) (pa_cons (pe_ix (kixl K) (pv 1) (pv 2) (fun _ _ => rfl)) pa_nil)) pa_nil)) (by rfl))
    (pss_cons (ps_asg (pe_tup (pa_cons (pe_ix (kixl K) (pv 1) (pv 3) (fun _ _ => rfl)) (pa_cons (pe_ix (kixl K) (pv 1) (pv 2) (fun _ _ => rfl)) pa_nil))) (pg_tup (by rfl) (pgs_cons (pg_sub (pv 9) (pv 2) set_list) (pgs_cons (pg_sub (pv 9) (pv 3) set_list) pgs_nil))))
    (pss_cons (ps_asg (pe_tup (pa_cons (pe_ix (kixl K) (pe_ix (kixl K) (pv 1) (pv 2) (fun _ _ => rfl)) (pv 5) (fun _ _ => rfl)) (pa_cons (pe_ix (kixl K) (pe_ix (kixl K) (pv 1) (pv 2) (fun _ _ => rfl)) (pv 4) (fun _ _ => rfl)) pa_nil))) (pg_tup (by rfl) (pgs_cons (pg_sub (pv 10) (pv 4) set_list) (pgs_cons (pg_sub (pv 10) (pv 5) set_list) pgs_nil))))
    (pss_cons (ps_expr (pe_bm PySem.F.plainAttrs_list PySem.F.slot_list_extend PySem.F.type_list_extend mt_extend (pv 8) (pa_cons (pe_lst (pa_cons (pv 10) (pa_cons (pe_op op_cat (pe_ix (kixl K) (pv 1) (pv 2) (fun _ _ => rfl)) (pe_lst (pa_cons pe_non pa_nil))) (pa_cons (pe_op op_cat (pe_ix (kixl K) (pv 1) (pv 2) (fun _ _ => rfl)) (pe_lst (pa_cons pe_int pa_nil))) (pa_cons (pe_slice (kslL K) (pe_ix (kixl K) (pv 1) (pv 2) (fun _ _ => rfl)) po_none (po_some (pe_un un_neg pe_int))) (pa_cons (pe_slice (kslL K) (pe_ix (kixl K) (pv 1) (pv 2) (fun _ _ => rfl)) (po_some pe_int) po_none) (pa_cons (pe_callTy (ktuple K) (by rfl) T.z_tuple (by decide +kernel) (pa_cons (pe_ix (kixl K) (pv 1) (pv 2) (fun _ _ => rfl)) pa_nil)) (pa_cons (pe_ix (kixl K) (pv 1) (pv 3) (fun _ _ => rfl)) (pa_cons (pe_lst pa_nil) (pa_cons pe_non (pa_cons pe_dnewK pa_nil))))))))))) pa_nil)))
    (pss_cons (ps_setLc (i := 11) (own := [("line", 13)]) (g := gName 13) (by rfl) sc_law_near.nd rfl rfl (sw_true rfl rfl rfl (by decide +kernel)) (kpil K (pe_op op_cat (pv 8) (pe_lst (pa_cons (by exact (pe_makeX T.mkc (ok_Line_init T) (hr.mono (by decide)) rfl T.gL T.m_init.b (fun σ => pass0At) (pa_cons (pe_tup (pa_cons pe_str (pa_cons pe_int pa_nil))) pa_nil))) (pa_cons pe_str (pa_cons (pv 7) pa_nil)))))) (blkOk_by (own := [("line", 13)]) (N := ["box", "due", "i", "other", "n", "j", "item", "number", "lines", "turned", "exchanged", "found", "one", "line"]) (sc := defScope s_law_near) (by decide +kernel)) (fun _ _ _ _ _ => (pg_name (i := 13) sc_law_near.nd rfl (Or.inl rfl))) (fun _ _ _ _ _ => pts_nil) (fun _ _ _ _ _ => (pe_op op_cat (pe_op op_cat (pe_slice (kslL K) (pv 1) po_none (po_some (pv 2))) (pe_lst (pa_cons (pv 13) pa_nil))) (pe_slice (kslL K) (pv 1) (po_some (pe_op op_add (pv 2) pe_int)) po_none))))
    (pss_cons (ps_expr (pe_bm PySem.F.plainAttrs_list PySem.F.slot_list_extend PySem.F.type_list_extend mt_extend (pv 11) (pa_cons (pe_lst (pa_cons (pv 9) (pa_cons (pe_slice (kslL K) (pv 1) (po_some pe_int) po_none) (pa_cons (pe_slice (kslL K) (pv 1) po_none (po_some (pe_un un_neg pe_int))) (pa_cons (pe_op op_cat (pv 1) (pe_slice (kslL K) (pv 1) (po_some (pe_un un_neg pe_int)) po_none)) (pa_cons (pe_op op_cat (pv 1) (pe_lst (pa_cons (pe_lst pa_nil) pa_nil))) (pa_cons (pe_lst (pa_cons (pv 1) pa_nil)) (pa_cons (pe_callTy (ktuple K) (by rfl) T.z_tuple (by decide +kernel) (pa_cons (pv 1) pa_nil)) (pa_cons (pe_lc (own := [("line", 13)]) (g := gName 13) (by rfl) sc_law_near.nd (kpil K (pv 1)) (blkOk_by (own := [("line", 13)]) (N := ["box", "due", "i", "other", "n", "j", "item", "number", "lines", "turned", "exchanged", "found", "one", "line"]) (sc := defScope s_law_near) (by decide +kernel)) (fun _ _ _ _ _ => (pg_name (i := 13) sc_law_near.nd rfl (Or.inl rfl))) (fun _ _ _ _ _ => pts_nil) (fun _ _ _ _ _ => (pe_callTy (ktuple K) (by rfl) T.z_tuple (by decide +kernel) (pa_cons (pv 13) pa_nil)))) pa_nil))))))))) pa_nil)))
    (pss_cons (ps_expr (pe_bm PySem.F.plainAttrs_list PySem.F.slot_list_extend PySem.F.type_list_extend mt_extend (pv 11) (pa_cons (pe_lst (pa_cons (pe_callTy (ktuple K) (by rfl) T.z_tuple (by decide +kernel) (pa_cons (pe_lc (own := [("line", 13)]) (g := gName 13) (by rfl) sc_law_near.nd (kpil K (pv 1)) (blkOk_by (own := [("line", 13)]) (N := ["box", "due", "i", "other", "n", "j", "item", "number", "lines", "turned", "exchanged", "found", "one", "line"]) (sc := defScope s_law_near) (by decide +kernel)) (fun _ _ _ _ _ => (pg_name (i := 13) sc_law_near.nd rfl (Or.inl rfl))) (fun _ _ _ _ _ => pts_nil) (fun _ _ _ _ _ => (pe_callTy (ktuple K) (by rfl) T.z_tuple (by decide +kernel) (pa_cons (pv 13) pa_nil)))) pa_nil)) (pa_cons pe_non (pa_cons pe_bl (pa_cons pe_int (pa_cons pe_str (pa_cons pe_dnewK (pa_cons (pe_lst pa_nil) (pa_cons (pe_tup pa_nil) (pa_cons (by exact (pe_makeX T.mkc (ok_Line_init T) (hr.mono (by decide)) rfl T.gL T.m_init.b (fun σ => pass0At) (pa_cons (pe_tup (pa_cons pe_str (pa_cons pe_int (pa_cons pe_int pa_nil)))) pa_nil))) pa_nil)))))))))) pa_nil)))
    (pss_one (ps_ret (pe_op op_cat (pv 11) (pe_lst (pa_cons (pe_lc (own := [("line", 13)]) (g := gName 13) (by rfl) sc_law_near.nd (kpil K (pv 1)) (blkOk_by (own := [("line", 13)]) (N := ["box", "due", "i", "other", "n", "j", "item", "number", "lines", "turned", "exchanged", "found", "one", "line"]) (sc := defScope s_law_near) (by decide +kernel)) (fun _ _ _ _ _ => (pg_name (i := 13) sc_law_near.nd rfl (Or.inl rfl))) (fun _ _ _ _ _ => pts_nil) (fun _ _ _ _ _ => (pe_slice (kslL K) (pv 13) po_none (po_some (pe_un un_neg pe_int))))) (pa_cons (pe_lc (own := [("line", 13)]) (g := gName 13) (by rfl) sc_law_near.nd (kpil K (pv 1)) (blkOk_by (own := [("line", 13)]) (N := ["box", "due", "i", "other", "n", "j", "item", "number", "lines", "turned", "exchanged", "found", "one", "line"]) (sc := defScope s_law_near) (by decide +kernel)) (fun _ _ _ _ _ => (pg_name (i := 13) sc_law_near.nd rfl (Or.inl rfl))) (fun _ _ _ _ _ => pts_nil) (fun _ _ _ _ _ => (pe_op op_cat (pv 13) (pe_lst (pa_cons (pe_ix (kixl K) (pv 13) (pe_un un_neg pe_int) (fun _ _ => rfl)) pa_nil))))) pa_nil))))))))))))))))), ?_⟩
  have tl := hd.sa.1
  have d0 := hd.l0
  have d1 := hd.l1
  have dm := hd.lm
  obtain ⟨t0, ht0⟩ : ∃ t, ts[0]? = some t := ⟨_, List.getElem?_eq_getElem (by omega)⟩
  have lenD : ∀ {G : Hp}, DueAt (isB b) m G p ts Ls → LenV K (.ref p) G ts.length := fun h => .inl ⟨_, SqL.of h.hp, (List.length_map ..).symm⟩
  refine ⟨_, rfl, _, rfl, _, ts.length, rfl, lenD hd, b, (ts.length : Int), k + 3, rfl, by omega, by omega, hB, fun i0 H1 ia ib B1 k1 => ?_⟩
  have hd1 := hd.but isB_self k1
  refine ⟨_, rfl, _, rfl, _, ts.length, rfl, lenD hd1, b, (ts.length : Int), k + 2, rfl, by omega, by omega, B1, fun o0 H2 oa ob B2 k2 => ?_⟩
  have hd2 := hd1.but isB_self k2
  obtain ⟨s0, _, hs0, sl0⟩ := hd2.live ht0
  refine ⟨_, rfl, _, rfl, _, _, _, _, rfl, rfl, SqL.of hd2.hp, at_of (show (0 : Int) = ((0 : Nat) : Int) from rfl) (map_ref ht0), _, m + 1, rfl, .inl ⟨_, SqL.of hs0, by rw [List.length_map, sl0]⟩, b, ((m + 1 : Nat) : Int), k + 1, rfl, by omega, by omega, B2, fun n0 H3 na nb B3 k3 => ?_⟩
  have hd3 := hd2.but isB_self k3
  refine ⟨three_le, fun t ht => ⟨t, _, rfl, SqT.of upd_same, rfl, _, _, rfl, _, _, rfl, _, _, rfl, rfl, ?_⟩⟩
  have e4 := Ex.new (o := .tup [.int i0, .int o0, .int n0]) ht
  have kb4 := ((k1.trans k2).trans k3).trans (But.of e4)
  have B4 := B3.ex e4
  have hd4 := hd3.ex e4
  generalize upd H3 t _ = H4 at kb4 B4 hd4 ⊢
  obtain ⟨i, rfl, hi⟩ : ∃ i : Nat, i0 = (i : Int) ∧ i < ts.length := ⟨i0.toNat, by omega, by omega⟩
  obtain ⟨ot, rfl, hot⟩ : ∃ o : Nat, o0 = (o : Int) ∧ o < ts.length := ⟨o0.toNat, by omega, by omega⟩
  obtain ⟨n, rfl, hn⟩ : ∃ n : Nat, n0 = (n : Int) ∧ n < m + 1 := ⟨n0.toNat, by omega, by omega⟩
  obtain ⟨ti, hti⟩ : ∃ t, ts[i]? = some t := ⟨_, List.getElem?_eq_getElem hi⟩
  obtain ⟨to, hto⟩ : ∃ t, ts[ot]? = some t := ⟨_, List.getElem?_eq_getElem hot⟩
  obtain ⟨s0', hs0i, hs04, sl0'⟩ := hd4.live ht0
  refine ⟨_, rfl, _, rfl, _, _, _, _, rfl, rfl, SqL.of hd4.hp, at_of (show (0 : Int) = ((0 : Nat) : Int) from rfl) (map_ref ht0), _, m + 1, rfl, .inl ⟨_, SqL.of hs04, by rw [List.length_map, sl0']⟩, b, ((m + 1 : Nat) : Int), k, rfl, by omega, by omega, B4, fun j0 G ja jb B k5 => ?_⟩
  have hdG := hd4.but isB_self k5
  have kb := kb4.trans k5
  obtain ⟨j, rfl, hj⟩ : ∃ j : Nat, j0 = (j : Int) ∧ j < m + 1 := ⟨j0.toNat, by omega, by omega⟩
  obtain ⟨si, hsi, hsiG, sil⟩ := hdG.live hti
  obtain ⟨o, ho⟩ : ∃ o, si[n]? = some o := ⟨_, List.getElem?_eq_getElem (by omega)⟩
  obtain ⟨oj, hoj⟩ : ∃ o, si[j]? = some o := ⟨_, List.getElem?_eq_getElem (by omega)⟩
  refine ⟨_, rfl, _, rfl, _, _, _, _, rfl, rfl, SqL.of hdG.hp, atI_nat (map_ref hti), _, rfl, _, _, _, _, rfl, rfl, SqL.of hsiG, atI_nat (map_opt ho), _, _, rfl, ?_⟩
  -- from here on nothing is drawn
  have q : ∀ v H', Ex G H' → LP (Av K T.C 3) 2 900 (isB b) v H' → Q v H' := fun v H' e r => q v H' (kb.trans (But.of e)) (B.ex e) r
  have hS : Ct (isB b) G := fun a ha => by
    obtain ⟨u, hu⟩ := B.some
    exact ⟨u, by rw [ha]; exact hu⟩
  clear hd hd1 hd2 hd3 hd4
  obtain ⟨z, hz⟩ : ∃ z : Int, Ev (tIf (tTest (tOp (fun x y H Q => y = V.non ∧ Q (V.bl !decide (x = V.non)) H) (tVar 6) (tC V.non))) (tVar 6) (tOp (rI0 fun i j => V.int (i - j)) (tCB (rLen K) (tCons (tOp (rIxL K) (tVar 1) (tC (V.int 0))) tNil)) (tC (V.int 1))))
      [some (.ref b), some (.ref p), some (.int (i : Int)), some (.int (ot : Int)), some (.int (n : Int)), some (.int (j : Int)), some (optV o), none, none, none, none, none, none, none] G (.int z) := by
    obtain ⟨s0, _, hs0, sl0⟩ := hdG.live ht0
    cases o with
    | none => exact ⟨((m + 1 : Nat) : Int) - 1, ev_if (b := false) (et_test fun H1 e1 Q q => ⟨_, rfl, rfl, q _ (Ex.refl _)⟩) (fun z => by cases z) fun _ => ev_op (fun H1 e1 Q q => ⟨_, rfl, _, _, _, _, rfl, rfl, SqL.of ((hdG.ex e1).hp), at_of (show (0 : Int) = ((0 : Nat) : Int) from rfl) (map_ref ht0), _, m + 1, rfl, .inl ⟨_, SqL.of (e1 _ _ hs0), by rw [List.length_map, sl0]⟩, q _ (Ex.refl _)⟩) ev_c rv_I0⟩
    | some z => exact ⟨z, ev_if (b := true) (et_test fun H1 e1 Q q => ⟨_, rfl, rfl, q _ (Ex.refl _)⟩) (fun _ => ev_var rfl) fun z => by cases z⟩
  refine ev_seq (i := 7) (v := .int z) hz fun G1 e1 => ?_
  have hd1 := hdG.ex e1
  have S1 := hS.ex e1
  refine seq_asg (lc_new (K := K) (j := 12) (vs := [12]) (P := Av K T.C 1) (P' := Av K T.C 2) (lo := 9) (hi := 9) cl_av cl_av S1 (em_list cl_av S1 (en_cons cl_av em_non (en_cons cl_av (em_evi (ev_var rfl)) (en_cons cl_av (em_evi (ev_op (ev_var rfl) ev_c rv_I0)) (en_cons cl_av (em_evi (ev_op (ev_var rfl) ev_c rv_I0)) (en_cons cl_av (em_int 0) (en_cons cl_av (em_bl true) (en_cons cl_av (em_bl false) (en_cons cl_av (em_str "0" (by decide +kernel) (by decide +kernel)) (en_cons cl_av (em_up (em_lst1 cl_av S1 (em_int 0)) (by omega)) en_nil))))))))) (by omega)) (by omega) (fun _ => rfl) (fun S' H' x ct up hx => ?_) (fun D8 xs8 G2 e2 h8n h8 l80 l81 h8a => ?_))
  · have d' := (up (P0 := DueP m p ts Ls [] K T.C) (v := .non) cl_due ⟨hd1, fun x hx => by cases hx⟩).1
    exact em_up (em_mid (P := Av K T.C 1) cl_av ct (em_of (cl_lp cl_av) (ev_ixl (ev_var rfl) d'.hp (ev_var rfl) (map_ref hti)) ((d'.lineA (List.mem_of_getElem? hti)).mono (fun x r => r.succ) (Nat.le_refl _) (Nat.le_refl _))) (ev_var rfl) (em_of cl_av (ev_var rfl) hx) (by omega)) (by omega)
  refine gn_ ?_
  have dp2 : DueP m p ts Ls xs8 K T.C (addS (isB b) D8) .non G2 := ⟨(hd1.new h8n).ex e2, h8a⟩
  have ct2 : Ct (addS (isB b) D8) G2 := fun a ha => ha.elim (fun z => (S1.ex e2) a z) fun z => ⟨_, z ▸ h8⟩
  have eG2 := e1.trans e2
  have siG2 := eG2 _ _ hsiG
  refine ⟨_, rfl, p, _, rfl, .inl (SqL.of dp2.1.hp), fun D9 h9 => ⟨_, rfl, _, rfl, _, _, _, _, rfl, rfl, SqL.of ((Ex.new h9) _ _ dp2.1.hp), atI_nat (map_ref hti), ti, _, rfl, .inl (SqL.of ((Ex.new h9) _ _ siG2)), fun D10 h10 => ⟨_, _, rfl, ?_⟩⟩⟩
  have e9 := Ex.new (o := .lst (ts.map V.ref)) h9
  have e10 := Ex.new (o := .lst (si.map optV)) h10
  have dp3 := cl_due.ex e10 (cl_due.new h10 (cl_due.ex e9 (cl_due.new h9 dp2)))
  have c9 := e10 _ _ (upd_same (H := G2) (a := D9) (o := .lst (ts.map V.ref)))
  have n109 : D10 ≠ D9 := fun z => by rw [z, upd_same] at h10; cases h10
  have n98 : D9 ≠ D8 := fun z => by rw [z, h8] at h9; cases h9
  have n108 : D10 ≠ D8 := fun z => by rw [z, e9 _ _ h8] at h10; cases h10
  have nb9 : ¬ addS (isB b) D8 D9 := ct2.fresh (Ex.refl _) h9
  have nb10 : ¬ addS (isB b) D8 D10 := ct2.fresh e9 h10
  have h10G : G2 D10 = none := fresh_back e9 h10
  have c10 : upd (upd G2 D9 (.lst (ts.map V.ref))) D10 (.lst (si.map optV)) D10 = some (.lst (si.map optV)) := upd_same
  have c8 := (e9.trans e10) _ _ h8
  have e23 := e9.trans e10
  generalize upd (upd G2 D9 (.lst (ts.map V.ref))) D10 (.lst (si.map optV)) = G3 at dp3 c9 c10 c8 e23 ⊢
  have si3 := e23 _ _ siG2
  refine ⟨_, rfl, _, rfl, _, _, _, _, rfl, rfl, SqL.of dp3.1.hp, atI_nat (map_ref hto), _, rfl, _, rfl, _, _, _, _, rfl, rfl, SqL.of dp3.1.hp, atI_nat (map_ref hti), two_le, fun T1 hT1 => ⟨T1, _, rfl, SqT.of upd_same, rfl, _, _, rfl, _, rfl, _, rfl, D9, _, _, i, rfl, rfl, (Ex.new hT1) _ _ c9, ixN_nat (by rw [List.length_map]; exact hi), _, _, rfl, _, rfl, _, rfl, D9, _, _, ot, rfl, rfl, upd_same, ixN_nat (by rw [List.length_set, List.length_map]; exact hot), rfl, ?_⟩⟩
  have S3D9 : addS (addS (addS (isB b) D8) D9) D10 D9 := .inl (.inr rfl)
  have S3D10 : addS (addS (addS (isB b) D8) D9) D10 D10 := .inr rfl
  have dp4 := cl_due.mt S3D9 (upd_same (o := .lst ((ts.map V.ref).set i (.ref to)))) (us := ((ts.map V.ref).set i (.ref to)).set ot (.ref ti)) (cl_due.mt S3D9 ((Ex.new (o := .tup [.ref to, .ref ti]) hT1) _ _ c9) (us := (ts.map V.ref).set i (.ref to)) (cl_due.ex (Ex.new hT1) dp3))
  have eT1 := Ex.new (o := .tup [.ref to, .ref ti]) hT1
  have c9' : upd (upd (upd G3 T1 (.tup [.ref to, .ref ti])) D9 (.lst ((ts.map V.ref).set i (.ref to)))) D9 (.lst (((ts.map V.ref).set i (.ref to)).set ot (.ref ti))) D9 = some (.lst (((ts.map V.ref).set i (.ref to)).set ot (.ref ti))) := upd_same
  have c10' : upd (upd (upd G3 T1 (.tup [.ref to, .ref ti])) D9 (.lst ((ts.map V.ref).set i (.ref to)))) D9 (.lst (((ts.map V.ref).set i (.ref to)).set ot (.ref ti))) D10 = some (.lst (si.map optV)) := by rw [upd_ne n109, upd_ne n109]; exact eT1 _ _ c10
  have c8' : upd (upd (upd G3 T1 (.tup [.ref to, .ref ti])) D9 (.lst ((ts.map V.ref).set i (.ref to)))) D9 (.lst (((ts.map V.ref).set i (.ref to)).set ot (.ref ti))) D8 = some (.lst xs8) := by rw [upd_ne n98.symm, upd_ne n98.symm]; exact eT1 _ _ c8
  have e24 : Ex G2 (upd (upd (upd G3 T1 (.tup [.ref to, .ref ti])) D9 (.lst ((ts.map V.ref).set i (.ref to)))) D9 (.lst (((ts.map V.ref).set i (.ref to)).set ot (.ref ti)))) := ((e23.trans eT1).mut h9).mut h9
  have x9r : ∀ x ∈ ((ts.map V.ref).set i (.ref to)).set ot (.ref ti), ∃ t ∈ ts, x = .ref t := set_refs (set_refs (fun x hx => by
    obtain ⟨t, ht, rfl⟩ := List.mem_map.mp hx
    exact ⟨t, ht, rfl⟩) (List.mem_of_getElem? hto)) (List.mem_of_getElem? hti)
  have x9l : (((ts.map V.ref).set i (.ref to)).set ot (.ref ti)).length = ts.length := by rw [List.length_set, List.length_set, List.length_map]
  generalize upd (upd (upd G3 T1 (.tup [.ref to, .ref ti])) D9 (.lst ((ts.map V.ref).set i (.ref to)))) D9 (.lst (((ts.map V.ref).set i (.ref to)).set ot (.ref ti))) = G4 at dp4 c9' c10' c8' e24 ⊢
  generalize ((ts.map V.ref).set i (.ref to)).set ot (.ref ti) = xs9 at c9' x9r x9l
  have si4 := e24 _ _ siG2
  refine ⟨_, rfl, _, rfl, _, _, _, _, rfl, rfl, SqL.of dp4.1.hp, atI_nat (map_ref hti), _, rfl, _, _, _, _, rfl, rfl, SqL.of si4, atI_nat (map_opt hoj), _, rfl, _, rfl, _, _, _, _, rfl, rfl, SqL.of dp4.1.hp, atI_nat (map_ref hti), _, rfl, _, _, _, _, rfl, rfl, SqL.of si4, atI_nat (map_opt ho), two_le, fun T2 hT2 => ⟨T2, _, rfl, SqT.of upd_same, rfl, _, _, rfl, _, rfl, _, rfl, D10, _, _, n, rfl, rfl, (Ex.new hT2) _ _ c10', ixN_nat (by rw [List.length_map]; omega), _, _, rfl, _, rfl, _, rfl, D10, _, _, j, rfl, rfl, upd_same, ixN_nat (by rw [List.length_set, List.length_map]; omega), rfl, ?_⟩⟩
  have eT2 := Ex.new (o := .tup [optV oj, optV o]) hT2
  have dp5 := cl_due.less (S' := addS (isB b) D8) (fun a h => .inl (.inl h)) (cl_due.mt S3D10 (upd_same (o := .lst ((si.map optV).set n (optV oj)))) (us := ((si.map optV).set n (optV oj)).set j (optV o)) (cl_due.mt S3D10 (eT2 _ _ c10') (us := (si.map optV).set n (optV oj)) (cl_due.ex eT2 dp4)))
  have c10'' : upd (upd (upd G4 T2 (.tup [optV oj, optV o])) D10 (.lst ((si.map optV).set n (optV oj)))) D10 (.lst (((si.map optV).set n (optV oj)).set j (optV o))) D10 = some (.lst (((si.map optV).set n (optV oj)).set j (optV o))) := upd_same
  have c9'' : upd (upd (upd G4 T2 (.tup [optV oj, optV o])) D10 (.lst ((si.map optV).set n (optV oj)))) D10 (.lst (((si.map optV).set n (optV oj)).set j (optV o))) D9 = some (.lst xs9) := by rw [upd_ne n109.symm, upd_ne n109.symm]; exact eT2 _ _ c9'
  have c8'' : upd (upd (upd G4 T2 (.tup [optV oj, optV o])) D10 (.lst ((si.map optV).set n (optV oj)))) D10 (.lst (((si.map optV).set n (optV oj)).set j (optV o))) D8 = some (.lst xs8) := by rw [upd_ne n108.symm, upd_ne n108.symm]; exact eT2 _ _ c8'
  have e25 : Ex G2 (upd (upd (upd G4 T2 (.tup [optV oj, optV o])) D10 (.lst ((si.map optV).set n (optV oj)))) D10 (.lst (((si.map optV).set n (optV oj)).set j (optV o)))) := ((e24.trans eT2).mut h10G).mut h10G
  have x10r : ∀ x ∈ ((si.map optV).set n (optV oj)).set j (optV o), ∃ o, x = optV o := set_opts (set_opts fun x hx => by
    obtain ⟨o, _, rfl⟩ := List.mem_map.mp hx
    exact ⟨o, rfl⟩)
  have x10l : (((si.map optV).set n (optV oj)).set j (optV o)).length = m + 1 := by rw [List.length_set, List.length_set, List.length_map, sil]
  generalize upd (upd (upd G4 T2 (.tup [optV oj, optV o])) D10 (.lst ((si.map optV).set n (optV oj)))) D10 (.lst (((si.map optV).set n (optV oj)).set j (optV o))) = G5 at dp5 c9'' c10'' c8'' e25 ⊢
  generalize ((si.map optV).set n (optV oj)).set j (optV o) = xs10 at c10'' x10r x10l
  have ct5 := ct2.ex e25
  have e5 := e2.trans e25
  have tim := List.mem_of_getElem? hti
  have A10 : Av K T.C 1 (addS (isB b) D8) (.ref D10) G5 := Av.up (lo := 1) (hi := 17) ⟨D10, xs10, rfl, c10'', nb10, by omega, by omega, fun x hx => by
    obtain ⟨o, rfl⟩ := x10r x hx
    exact RV.av ⟨_, rd_opt o⟩⟩ (by omega)
  have L5 : EvM (tLst (tCons (tVar 10) (tCons (tOp rCat (tOp (rIxL K) (tVar 1) (tVar 2)) (tLst (tCons (tC V.non) tNil))) (tCons (tOp rCat (tOp (rIxL K) (tVar 1) (tVar 2)) (tLst (tCons (tC (V.int 0)) tNil))) (tCons (tSl (rSlL K) (tOp (rIxL K) (tVar 1) (tVar 2)) tNoPart (tPart (tUn (rU fun i => V.int (-i)) (tC (V.int 1))))) (tCons (tSl (rSlL K) (tOp (rIxL K) (tVar 1) (tVar 2)) (tPart (tC (V.int 1))) tNoPart) (tCons (tCB (rTupOf K) (tCons (tOp (rIxL K) (tVar 1) (tVar 2)) tNil)) (tCons (tOp (rIxL K) (tVar 1) (tVar 3)) (tCons (tLst tNil) (tCons (tC V.non) (tCons tDNewK tNil)))))))))))
      [some (.ref b), some (.ref p), some (.int (i : Int)), some (.int (ot : Int)), some (.int (n : Int)), some (.int (j : Int)), some (optV o), some (.int z), some (.ref D8), some (.ref D9), some (.ref D10), none, none, none] G5 (LP (Av K T.C 2) 10 10 (addS (isB b) D8)) := by
    have ln := em_of (P := LP (Av K T.C 0) 1 17) (σ := [some (.ref b), some (.ref p), some (.int (i : Int)), some (.int (ot : Int)), some (.int (n : Int)), some (.int (j : Int)), some (optV o), some (.int z), some (.ref D8), some (.ref D9), some (.ref D10), none, none, none]) (cl_lp cl_av) (ev_ixl (K := K) (ta := tVar 1) (tb := tVar 2) (ev_var rfl) dp5.1.hp (ev_var rfl) (map_ref hti)) (dp5.1.lineA tim)
    have lr := em_of (P := LP (RV K 0) 1 17) (σ := [some (.ref b), some (.ref p), some (.int (i : Int)), some (.int (ot : Int)), some (.int (n : Int)), some (.int (j : Int)), some (optV o), some (.int z), some (.ref D8), some (.ref D9), some (.ref D10), none, none, none]) (cl_lp cl_rv) (ev_ixl (K := K) (ta := tVar 1) (tb := tVar 2) (ev_var rfl) dp5.1.hp (ev_var rfl) (map_ref hti)) (dp5.1.line tim)
    refine em_list cl_av ct5 (en_cons cl_av (em_of cl_av (ev_var rfl) (A10.le (by omega))) (en_cons cl_av (em_le (em_up (em_cat cl_av ct5 ln (em_lst1 cl_av ct5 em_non) (by omega)) (by omega)) (by omega)) (en_cons cl_av (em_le (em_up (em_cat cl_av ct5 ln (em_lst1 cl_av ct5 (em_int 0)) (by omega)) (by omega)) (by omega)) (en_cons cl_av (em_le (em_up (em_cut1 ct5 cl_av ln) (by omega)) (by omega)) (en_cons cl_av (em_le (em_up (em_rest1 ct5 cl_av ln) (by omega)) (by omega)) (en_cons cl_av (em_imp (em_tupOf ct5 lr (by omega)) fun v H' r => (RV.av r).le (by omega)) (en_cons cl_av (em_of cl_av (ev_ixl (ev_var rfl) dp5.1.hp (ev_var rfl) (map_ref hto)) ((Av.up (dp5.1.lineA (List.mem_of_getElem? hto)) (by omega)).le (by omega))) (en_cons cl_av (em_lst0 ct5) (en_cons cl_av em_non (en_cons cl_av em_dict en_nil)))))))))) (by omega)
  refine ⟨_, rfl, .inl ⟨rfl, _, SqL.of c8''⟩, L5 G5 (Ex.refl _) _ fun v G6 e6 r6 => ?_⟩
  obtain ⟨z6, zs, rfl, hz6, sz6, lz0, lz1, az⟩ := r6
  refine ⟨D8, z6, _, zs, rfl, rfl, e6 _ _ c8'', hz6, Nat.le_of_lt (small1000 (by omega)), ?_⟩
  have S2D8 : addS (isB b) D8 D8 := .inr rfl
  have dp7 := cl_due.mt S2D8 (e6 _ _ c8'') (us := xs8 ++ zs) (cl_due.ex e6 dp5)
  have az7 : ∀ x ∈ zs, Av K T.C 2 (addS (isB b) D8) x (upd G6 D8 (.lst (xs8 ++ zs))) := fun x hx => cl_av.mt S2D8 (e6 _ _ c8'') (az x hx)
  have e7 : Ex G1 (upd G6 D8 (.lst (xs8 ++ zs))) := (e5.trans e6).mut h8n
  have c9t : upd G6 D8 (.lst (xs8 ++ zs)) D9 = some (.lst xs9) := by rw [upd_ne n98]; exact e6 _ _ c9''
  have c8t : upd G6 D8 (.lst (xs8 ++ zs)) D8 = some (.lst (xs8 ++ zs)) := upd_same
  generalize upd G6 D8 (.lst (xs8 ++ zs)) = G7 at dp7 az7 e7 c9t c8t ⊢
  have ct7 := S1.ex e7
  have nB8 : ¬ isB b D8 := S1.fresh (Ex.refl _) h8n
  have d7 := dp7.1.less (S' := isB b) fun a h => .inl h
  have lp8 : LP (Av K T.C 2) 9 19 (isB b) (.ref D8) G7 := ⟨D8, _, rfl, c8t, nB8, by rw [List.length_append]; omega, by rw [List.length_append]; omega, fun x hx => by
    rcases List.mem_append.mp hx with hx | hx
    · exact cl_av.less (fun a h => .inl h) (dp7.2 x hx)
    · exact cl_av.less (fun a h => .inl h) (az7 x hx)⟩
  have nB9 : ¬ isB b D9 := fun h => nb9 (.inl h)
  have T9 : Av K T.C 2 (isB b) (.ref D9) G7 := (RV.up (n := 1) (lo := 1) (hi := 17) ⟨D9, xs9, rfl, c9t, nB9, by omega, by omega, fun x hx => by
    obtain ⟨t, ht, rfl⟩ := x9r x hx
    exact RV.up (d7.line ht) (by omega)⟩ (by omega)).av
  refine seq_asg (lc_new (K := K) (j := 13) (vs := [13]) (P := Av K T.C 2) (P' := Av K T.C 3) (lo := 12) (hi := 22) cl_av cl_av ct7 (em_cat cl_av ct7 (em_of (cl_lp cl_av) (ev_var rfl) lp8) (em_list cl_av ct7 (en_cons cl_av (em_make T ct7 (.inl (eu_tup (ea_cons ev_c (ea_cons ev_c ea_nil)) (by show 2 ≤ 900; decide)))) (en_cons cl_av (em_str "None" (by decide +kernel) (by decide +kernel)) (en_cons cl_av (em_evi (ev_var rfl)) en_nil))) (by omega)) (by omega)) (by omega) (fun _ => rfl) (fun S' H' x ct up hx => ?_) (fun D11 xs11 G8 e8 h11n h11 l110 l111 h11a => ?_))
  · have d' := (up (P0 := DueP m p ts Ls [] K T.C) (v := .non) cl_due ⟨d7, fun x hx => by cases hx⟩).1
    exact em_up (em_mid (P := Av K T.C 2) cl_av ct (em_of (cl_lp cl_av) (ev_var rfl) ((d'.lpA).mono (fun x r => r.succ) (Nat.le_refl _) (Nat.le_refl _))) (ev_var rfl) (em_of cl_av (ev_var rfl) hx) (by omega)) (by omega)
  refine gn_ ?_
  have ct8 : Ct (addS (isB b) D11) G8 := fun a ha => ha.elim (fun z => (ct7.ex e8) a z) fun z => ⟨_, z ▸ h11⟩
  have d8 : DueAt (addS (isB b) D11) m G8 p ts Ls := (d7.new h11n).ex e8
  have T98 : Av K T.C 2 (addS (isB b) D11) (.ref D9) G8 := cl_av.ex e8 (cl_av.new h11n T9)
  have S4D : addS (isB b) D11 D11 := .inr rfl
  have L8 : EvM (tLst (tCons (tVar 9) (tCons (tSl (rSlL K) (tVar 1) (tPart (tC (V.int 1))) tNoPart) (tCons (tSl (rSlL K) (tVar 1) tNoPart (tPart (tUn (rU fun i => V.int (-i)) (tC (V.int 1))))) (tCons (tOp rCat (tVar 1) (tSl (rSlL K) (tVar 1) (tPart (tUn (rU fun i => V.int (-i)) (tC (V.int 1)))) tNoPart)) (tCons (tOp rCat (tVar 1) (tLst (tCons (tLst tNil) tNil))) (tCons (tLst (tCons (tVar 1) tNil)) (tCons (tCB (rTupOf K) (tCons (tVar 1) tNil)) (tCons (tLc (iList K (tVar 1)) (gName 13) tYes (tCB (rTupOf K) (tCons (tVar 13) tNil)) [13]) tNil)))))))))
      [some (.ref b), some (.ref p), some (.int (i : Int)), some (.int (ot : Int)), some (.int (n : Int)), some (.int (j : Int)), some (optV o), some (.int z), some (.ref D8), some (.ref D9), some (.ref D10), some (.ref D11), none, none] G8 (LP (Av K T.C 3) 8 8 (addS (isB b) D11)) := by
    obtain ⟨σ, hσ, v1, v9⟩ : ∃ σ : L2.St, σ = [some (.ref b), some (.ref p), some (.int (i : Int)), some (.int (ot : Int)), some (.int (n : Int)), some (.int (j : Int)), some (optV o), some (.int z), some (.ref D8), some (.ref D9), some (.ref D10), some (.ref D11), none, none] ∧ σ[1]? = some (some (.ref p)) ∧ σ[9]? = some (some (.ref D9)) := ⟨_, rfl, rfl, rfl⟩
    have w13 : ∀ x, wipe ((wipe σ [13]).set 13 (some x)) [13] = wipe σ [13] := fun x => by rw [hσ]; rfl
    have g13 : ∀ x : V, ((wipe σ [13]).set 13 (some x))[13]? = some (some x) := fun x => by rw [hσ]; rfl
    rw [← hσ]
    have dA := em_of (P := LP (Av K T.C 1) 1 17) (σ := σ) (te := tVar 1) (cl_lp cl_av) (ev_var v1) d8.lpA
    have dR := em_of (P := LP (RV K 1) 1 17) (σ := σ) (te := tVar 1) (cl_lp cl_rv) (ev_var v1) (d8.lp.mono (fun x r => RV.up r (by omega)) (Nat.le_refl _) (Nat.le_refl _))
    have dL := em_of (P := LP (LP (RV K 0) 1 17) 1 17) (σ := σ) (te := tVar 1) (cl_lp (cl_lp cl_rv)) (ev_var v1) d8.lp
    have tps := em_lc (K := K) (j := 13) (vs := [13]) (tb := tCB (rTupOf K) (tCons (tVar 13) tNil)) (P := LP (RV K 0) 1 17) (P' := RV K 1) (cl_lp cl_rv) cl_rv ct8 dL (by omega) w13 (fun S' H' x ct up hx => em_tupOf ct (em_of (cl_lp cl_rv) (ev_var (g13 x)) hx) (by omega))
    refine em_list cl_av ct8 (en_cons cl_av (em_of cl_av (ev_var v9) T98.succ) (en_cons cl_av (em_le (em_up (em_rest1 ct8 cl_av dA) (by omega)) (by omega)) (en_cons cl_av (em_le (em_up (em_cut1 ct8 cl_av dA) (by omega)) (by omega)) (en_cons cl_av (em_le (em_up (em_cat cl_av ct8 dA (em_sl cl_av ct8 dA (eo_some ev_neg1) eo_none) (by omega)) (by omega)) (by omega)) (en_cons cl_av (em_le (em_up (em_cat cl_av ct8 dA (em_lst1 cl_av ct8 (em_lst0 ct8)) (by omega)) (by omega)) (by omega)) (en_cons cl_av (em_up (em_lst1 cl_av ct8 (em_up dA (by omega))) (by omega)) (en_cons cl_av (em_imp (em_tupOf ct8 dR (by omega)) fun v H' r => (RV.av r).le (by omega)) (en_cons cl_av (em_imp tps fun v H' r => (RV.av (RV.up r (by omega))).le (by omega)) en_nil)))))))) (by omega)
  refine ⟨_, rfl, .inl ⟨rfl, _, SqL.of h11⟩, L8 G8 (Ex.refl _) _ fun v G9 e9' r9 => ?_⟩
  obtain ⟨z9, ws, rfl, hz9, sz9, lw0, lw1, aw⟩ := r9
  refine ⟨D11, z9, _, ws, rfl, rfl, e9' _ _ h11, hz9, Nat.le_of_lt (small1000 (by omega)), ?_⟩
  have d10 := (d8.ex e9').but (H' := upd G9 D11 (.lst (xs11 ++ ws))) S4D But.upd
  have a11 : ∀ x ∈ xs11 ++ ws, Av K T.C 3 (addS (isB b) D11) x (upd G9 D11 (.lst (xs11 ++ ws))) := fun x hx => by
    rcases List.mem_append.mp hx with hx | hx
    · exact cl_av.mt S4D (e9' _ _ h11) (cl_av.ex e9' (h11a x hx))
    · exact cl_av.mt S4D (e9' _ _ h11) (aw x hx)
  have e710 : Ex G7 (upd G9 D11 (.lst (xs11 ++ ws))) := (e8.trans e9').mut h11n
  have c11 : upd G9 D11 (.lst (xs11 ++ ws)) D11 = some (.lst (xs11 ++ ws)) := upd_same
  have l11 : 20 ≤ (xs11 ++ ws).length ∧ (xs11 ++ ws).length ≤ 30 := by rw [List.length_append]; omega
  generalize upd G9 D11 (.lst (xs11 ++ ws)) = G10 at d10 a11 e710 c11 ⊢
  generalize xs11 ++ ws = xs12 at a11 c11 l11
  have ct10 : Ct (addS (isB b) D11) G10 := fun a ha => ha.elim (fun z => (ct7.ex e710) a z) fun z => ⟨_, z ▸ c11⟩
  have L10 : EvM (tLst (tCons (tCB (rTupOf K) (tCons (tLc (iList K (tVar 1)) (gName 13) tYes (tCB (rTupOf K) (tCons (tVar 13) tNil)) [13]) tNil)) (tCons (tC V.non) (tCons (tC (V.bl true)) (tCons (tC (V.int 0)) (tCons (tC (V.str "")) (tCons tDNewK (tCons (tLst tNil) (tCons (tTup tNil) (tCons (tMakeX T.C (spLnInit T.C) (fun _ => E0) (tCons (tTup (tCons (tC (V.str "letters")) (tCons (tC (V.int 1)) (tCons (tC (V.int 1)) tNil)))) tNil)) tNil))))))))))
      [some (.ref b), some (.ref p), some (.int (i : Int)), some (.int (ot : Int)), some (.int (n : Int)), some (.int (j : Int)), some (optV o), some (.int z), some (.ref D8), some (.ref D9), some (.ref D10), some (.ref D11), none, none] G10 (LP (Av K T.C 3) 9 9 (addS (isB b) D11)) := by
    obtain ⟨σ, hσ, v1⟩ : ∃ σ : L2.St, σ = [some (.ref b), some (.ref p), some (.int (i : Int)), some (.int (ot : Int)), some (.int (n : Int)), some (.int (j : Int)), some (optV o), some (.int z), some (.ref D8), some (.ref D9), some (.ref D10), some (.ref D11), none, none] ∧ σ[1]? = some (some (.ref p)) := ⟨_, rfl, rfl⟩
    have w13 : ∀ x, wipe ((wipe σ [13]).set 13 (some x)) [13] = wipe σ [13] := fun x => by rw [hσ]; rfl
    have g13 : ∀ x : V, ((wipe σ [13]).set 13 (some x))[13]? = some (some x) := fun x => by rw [hσ]; rfl
    rw [← hσ]
    have dL := em_of (P := LP (LP (RV K 0) 1 17) 1 17) (σ := σ) (te := tVar 1) (cl_lp (cl_lp cl_rv)) (ev_var v1) d10.lp
    have tps := em_lc (K := K) (j := 13) (vs := [13]) (tb := tCB (rTupOf K) (tCons (tVar 13) tNil)) (P := LP (RV K 0) 1 17) (P' := RV K 1) (cl_lp cl_rv) cl_rv ct10 dL (by omega) w13 (fun S' H' x ct up hx => em_tupOf ct (em_of (cl_lp cl_rv) (ev_var (g13 x)) hx) (by omega))
    refine em_list cl_av ct10 (en_cons cl_av (em_imp (em_tupOf ct10 tps (by omega)) fun v H' r => (RV.av r).le (by omega)) (en_cons cl_av em_non (en_cons cl_av (em_bl true) (en_cons cl_av (em_int 0) (en_cons cl_av (em_str "" (by decide +kernel) (by decide +kernel)) (en_cons cl_av em_dict (en_cons cl_av (em_lst0 ct10) (en_cons cl_av (em_imp (em_tup0 (n := 0) ct10) fun v H' r => (RV.av r).le (by omega)) (en_cons cl_av (em_make T ct10 (.inr (eu_tup (ea_cons ev_c (ea_cons ev_c (ea_cons ev_c ea_nil))) (by show 3 ≤ 900; decide)))) en_nil))))))))) (by omega)
  refine ⟨_, rfl, .inl ⟨rfl, _, SqL.of c11⟩, L10 G10 (Ex.refl _) _ fun v G11 e11 r11 => ?_⟩
  obtain ⟨z11, us, rfl, hz11, sz11, lu0, lu1, au⟩ := r11
  refine ⟨D11, z11, _, us, rfl, rfl, e11 _ _ c11, hz11, Nat.le_of_lt (small1000 (by omega)), ?_⟩
  have d12 := ((d10.ex e11).but (H' := upd G11 D11 (.lst (xs12 ++ us))) S4D But.upd).less (S' := isB b) fun a h => .inl h
  have a12 : ∀ x ∈ xs12 ++ us, Av K T.C 3 (isB b) x (upd G11 D11 (.lst (xs12 ++ us))) := fun x hx => by
    refine cl_av.less (S := addS (isB b) D11) (fun a h => .inl h) ?_
    rcases List.mem_append.mp hx with hx | hx
    · exact cl_av.mt S4D (e11 _ _ c11) (cl_av.ex e11 (a11 x hx))
    · exact cl_av.mt S4D (e11 _ _ c11) (au x hx)
  have e712 : Ex G7 (upd G11 D11 (.lst (xs12 ++ us))) := (e710.trans e11).mut h11n
  have c12 : upd G11 D11 (.lst (xs12 ++ us)) D11 = some (.lst (xs12 ++ us)) := upd_same
  generalize upd G11 D11 (.lst (xs12 ++ us)) = G12 at d12 a12 e712 c12 ⊢
  have ct12 := ct7.ex e712
  have nB11 : ¬ isB b D11 := ct7.fresh (Ex.refl _) h11n
  have lpF : LP (Av K T.C 3) 29 39 (isB b) (.ref D11) G12 := ⟨D11, _, rfl, c12, nB11, by rw [List.length_append]; omega, by rw [List.length_append]; omega, a12⟩
  have fin : EvM (tOp rCat (tVar 11) (tLst (tCons (tLc (iList K (tVar 1)) (gName 13) tYes (tSl (rSlL K) (tVar 13) tNoPart (tPart (tUn (rU fun i => V.int (-i)) (tC (V.int 1))))) [13]) (tCons (tLc (iList K (tVar 1)) (gName 13) tYes (tOp rCat (tVar 13) (tLst (tCons (tOp (rIxL K) (tVar 13) (tUn (rU fun i => V.int (-i)) (tC (V.int 1)))) tNil))) [13]) tNil))))
      [some (.ref b), some (.ref p), some (.int (i : Int)), some (.int (ot : Int)), some (.int (n : Int)), some (.int (j : Int)), some (optV o), some (.int z), some (.ref D8), some (.ref D9), some (.ref D10), some (.ref D11), none, none] G12 (LP (Av K T.C 3) (29 + 2) (39 + 2) (isB b)) := by
    obtain ⟨σ, hσ, v1, v11⟩ : ∃ σ : L2.St, σ = [some (.ref b), some (.ref p), some (.int (i : Int)), some (.int (ot : Int)), some (.int (n : Int)), some (.int (j : Int)), some (optV o), some (.int z), some (.ref D8), some (.ref D9), some (.ref D10), some (.ref D11), none, none] ∧ σ[1]? = some (some (.ref p)) ∧ σ[11]? = some (some (.ref D11)) := ⟨_, rfl, rfl, rfl⟩
    have w13 : ∀ x, wipe ((wipe σ [13]).set 13 (some x)) [13] = wipe σ [13] := fun x => by rw [hσ]; rfl
    have g13 : ∀ x : V, ((wipe σ [13]).set 13 (some x))[13]? = some (some x) := fun x => by rw [hσ]; rfl
    rw [← hσ]
    have dL := em_of (P := LP (LP (Av K T.C 0) 1 17) 1 17) (σ := σ) (te := tVar 1) (cl_lp (cl_lp cl_av)) (ev_var v1) (d12.lp.mono (fun x r => r.mono (fun x r => RV.av r) (Nat.le_refl _) (Nat.le_refl _)) (Nat.le_refl _) (Nat.le_refl _))
    refine em_cat cl_av ct12 (em_of (cl_lp cl_av) (ev_var v11) lpF) (em_list cl_av ct12 (en_cons cl_av (em_le (em_up (em_lc (K := K) (P := LP (Av K T.C 0) 1 17) (P' := Av K T.C 1) (cl_lp cl_av) cl_av ct12 dL (by omega) w13 (fun S' H' x ct up hx => em_up (em_cut1 ct cl_av (em_of (cl_lp cl_av) (ev_var (g13 x)) hx)) (by omega))) (by omega)) (by omega))
      (en_cons cl_av (em_le (em_up (em_lc (K := K) (P := LP (Av K T.C 0) 1 17) (P' := Av K T.C 1) (cl_lp cl_av) cl_av ct12 dL (by omega) w13 (fun S' H' x ct up hx => em_up (em_cat cl_av ct (em_of (cl_lp cl_av) (ev_var (g13 x)) hx) (em_lst1 cl_av ct (em_last cl_av (em_of (cl_lp cl_av) (ev_var (g13 x)) hx) (by omega))) (by omega)) (by omega))) (by omega)) (by omega)) en_nil)) (by omega)) (by omega)
  exact fin G12 (Ex.refl _) _ fun v H' e r => q v H' (e1.trans (e7.trans (e712.trans e))) (r.mono (fun x h => h) (by omega) (by omega))
end
end L2.U


set_option Elab.async false
set_option linter.all false
set_option maxRecDepth 100000
set_option maxHeartbeats 4000000
namespace L2.U
open PySem PySem.Spec PyProof.Rows Evl


section
variable {P : Program} {w : World} {K : PySem.W.Frag} {mg : Str → Option Value} {base : Heap}
theorem okS_but {S : Addr → Prop} {H H' : Hp} {D : Addr} (hD : S D) (k : But D H H') : ∀ a, okS S H a → okS S H' a := fun a h => ⟨h.1.elim fun o ho => ⟨o, k _ _ (okS_ne hD a h) ho⟩, h.2⟩
theorem Av.but {C : Addr} {n : Nat} {S : Addr → Prop} {v : V} {H H' : Hp} {D : Addr} {zs : List V} (hD : S D) (hz : H D = some (.lst zs)) (k : But D H H') (h : Av K C n S v H) : Av K C n S v H' :=
  h.elim fun d r => ⟨d, (r.but hz k (okS_ne hD)).of (okS_but hD k)⟩
theorem LP.but {C : Addr} {n lo hi : Nat} {S : Addr → Prop} {v : V} {H H' : Hp} {D : Addr} {zs : List V} (hD : S D) (hz : H D = some (.lst zs)) (k : But D H H') (h : LP (Av K C n) lo hi S v H) : LP (Av K C n) lo hi S v H' := by
  obtain ⟨p, xs, rfl, hp, sp, l0, l1, al⟩ := h
  exact ⟨p, xs, rfl, k _ _ (fun z => sp (by rw [z]; exact hD)) hp, sp, l0, l1, fun x hx => (al x hx).but hD hz k⟩
theorem box_lst {H : Hp} {b : Addr} {n : Nat} (h : BoxAt H b n) : ∃ zs, H b = some (.lst zs) := by
  obtain ⟨d, m, c, f, h, _⟩ := h
  exact ⟨_, h⟩
theorem due_at {ok : Addr → Prop} {S : Addr → Prop} {H : Hp} {n m : Nat} {p : Addr} {Ls : List (List (Option Int))} (h : Rd K ok H n (.ref p) (linesP Ls)) (w : ∀ a, ok a → ¬ S a) (l0 : 1 ≤ Ls.length) (l1 : Ls.length ≤ 17) (ln : ∀ s ∈ Ls, s.length = m + 1) (lm : m ≤ 16) : ∃ ts, DueAt S m H p ts Ls := by
  obtain ⟨p', xs, e, hp, okp, hl, all⟩ := rd_lst_at' h
  cases e
  rw [List.length_map] at hl
  have each : ∀ x ∈ xs, ∃ t : Addr, x = .ref t ∧ ok t := fun x hx => by
    obtain ⟨i, hi⟩ := List.mem_iff_getElem?.mp hx
    have hlt := (List.getElem?_eq_some_iff.mp hi).1
    have hs : Ls[i]? = some (Ls[i]'(by omega)) := List.getElem?_eq_getElem _
    obtain ⟨t, ys, e, _, okt, _⟩ := rd_lst_at' (all i x _ hi (by rw [List.getElem?_map, hs]; rfl))
    exact ⟨t, e, okt⟩
  obtain ⟨ts, htl, hts⟩ := pick_ds each
  have exs : xs = ts.map V.ref := by
    apply List.ext_getElem?
    intro i
    by_cases hi : i < xs.length
    · rw [List.getElem?_map, List.getElem?_eq_getElem hi, List.getElem?_eq_getElem (show i < ts.length by omega)]
      exact congrArg some (hts i _ _ (List.getElem?_eq_getElem hi) (List.getElem?_eq_getElem (show i < ts.length by omega))).1
    · rw [List.getElem?_eq_none (by omega), List.getElem?_eq_none (by rw [List.length_map]; omega)]
  subst exs
  refine ⟨ts, hp, ⟨by omega, fun i t s ht hs => ?_⟩, w _ okp, fun t ht => ?_, l0, l1, ln, lm⟩
  · obtain ⟨t', ys, e, hys, _, hyl, hya⟩ := rd_lst_at' (all i (.ref t) (lineP s) (map_ref ht) (by rw [List.getElem?_map, hs]; rfl))
    cases e
    rw [List.length_map] at hyl
    rw [hys, ro_opts (K := K) (C := p) (ok := ok) hyl fun i x e hx he => .rd (hya i x e hx he)]
  · obtain ⟨i, hi⟩ := List.mem_iff_getElem?.mp ht
    exact w t (hts i _ _ (map_ref hi) hi).2
theorem seq_par {i j : Nat} {ta : TA} {rest : TS} {D : Ends} {σ : L2.St} {H : Hp} (h : ta σ H fun vs H1 => ∃ v w, vs = [v, w] ∧ rest D ((σ.set i (some v)).set j (some w)) H1) : tSeq (tPar i j ta) rest D σ H := h
theorem cons_ {te : TE} {ta : TA} {σ : L2.St} {H : Hp} {Q : List V → Hp → Prop} (h : te σ H fun v H1 => ta σ H1 fun vs H2 => Q (v :: vs) H2) : tCons te ta σ H Q := h
theorem ev_sel {σ : L2.St} {H : Hp} {ta : TA} {xs : List V} {k sz : Nat} {v : V} (hk : σ[k]? = some (some (.int (sz : Int)))) (hv : xs[sz]? = some v) (hl : xs.length ≤ 900) (h : EvA ta σ H xs) : Ev (tOp (rIxL K) (tLst ta) (tVar k)) σ H v :=
  ev_opL1 (el_lst h (by omega)) (fun H2 e2 => ev_var hk) fun p H2 hp e2 => rv_ixL (SqL.of hp) (atI_nat hv)
theorem top_ {r : R2} {ta tb : TE} {σ : L2.St} {H : Hp} {Q : VK} (h : ta σ H fun x H1 => tb σ H1 fun y H2 => r x y H2 Q) : tOp r ta tb σ H Q := h
theorem lc_inv {ta : TA} {te : TE} {σ : L2.St} {H : Hp} {j : Nat} {vs : List Nat} {n : Int} {Q : VK} (Pv : Nat → Addr → Hp → Prop) (h : EvA ta σ H [.int n]) (hn : 0 ≤ n ∧ n ≤ 900) (hw : ∀ x, wipe ((wipe σ vs).set j (some x)) vs = wipe σ vs)
    (h0 : ∀ H1 D, Ex H H1 → H1 D = none → Pv 0 D (upd H1 D (.lst []))) (hs : ∀ (i : Nat) D H', (i : Int) < n → Pv i D H' → te ((wipe σ vs).set j (some (.int (i : Int)))) H' fun y H4 => ∃ acc, H4 D = some (.lst acc) ∧ acc.length < sizeLine ∧ Pv (i + 1) D (upd H4 D (.lst (acc ++ [y]))))
    (hd : ∀ D H', Pv n.toNat D H' → Q (.ref D) H') : tLc (iRng1 ta) (gName j) tYes te vs σ H Q := by
  refine h H (Ex.refl _) _ fun H1 e1 => ⟨n, rfl, by omega, by omega, fun D hD => ?_⟩
  refine lc_range (lo := 0) (n := n.toNat) (fun i H' => Pv i D H') (h0 H1 D e1 hD) (fun i H' hi p => ⟨hw _, ?_⟩) (fun H' p => hd D H' p)
  have e0 : (0 : Int) + (i : Int) = (i : Int) := Int.zero_add _
  show tYes _ H' (fun b H3 => if b = true then te ((wipe σ vs).set j (some (.int ((0 : Int) + (i : Int))))) H3 fun y H4 => ∃ acc, H4 D = some (.lst acc) ∧ acc.length < sizeLine ∧ _ else _)
  rw [e0]
  exact tyes (hs i D H' (by omega) p)
def spLaw (K : PySem.W.Frag) : Sp := fun vs H Q _ => ∃ (a : Addr) (ns : List Int), vs = [.ref a] ∧ SqL K H a (ns.map V.int) ∧ ns.length ≤ 63 ∧ ∀ H', Q (.bl true) H'
theorem ok_law (T : TK K mg) : FnOk P w K mg base CX0 17 T.law.a T.law.fd ["script"] (spLaw K) := by
  refine T.law.F.ok sc_law (fun vs H Q E h => ?_) (fun cdv A outer s H vs Q E hr h => ?_)
  · obtain ⟨a, ns, rfl, _⟩ := h; rfl
  obtain ⟨a, ns, rfl, ha, hl, q⟩ := h
  refine ⟨_, (pss_cons (ps_for PassesOwn.never rfl (pi_range1 rfl T.z_range (pa_cons (pe_callB (call_max2 rfl) (by rfl) T.z_max (by decide +kernel) (pa_cons pe_int (pa_cons (pe_callB (call_min2 rfl) (by rfl) T.z_min (by decide +kernel) (pa_cons pe_int (pa_cons (pe_callB (klen K) (by rfl) T.z_len (by decide +kernel) (pa_cons (pv 0) pa_nil)) pa_nil))) pa_nil))) pa_nil)) (pg_name (i := 1) sc_law.nd rfl (Or.inl rfl)) (pss_cons (ps_set (i := 2) sc_law.nd rfl (Or.inr rfl) (pe_call (ok_law_box T.toTA1) (hr.mono (by decide)) rfl T.law_box.m T.law_box.F.kp T.law_box.b .nil pass0 (pa_cons (pe_call (ok_law_cell T.toTA1) (hr.mono (by decide)) rfl T.law_cell.m T.law_cell.F.kp T.law_cell.b .nil pass0 (pa_cons (pv 0) (pa_cons (pv 1) pa_nil))) pa_nil)))
    (pss_cons (ps_par (i := 3) (j := 4) (by rfl) sc_law.nd rfl rfl (by decide) rfl rfl (pa_cons (pe_call (ok_law_take T.toTA1) (hr.mono (by decide)) rfl T.law_take.m T.law_take.F.kp T.law_take.b .nil pass0 (pa_cons (pv 2) (pa_cons pe_int pa_nil))) (pa_cons (pe_call (ok_law_take T.toTA1) (hr.mono (by decide)) rfl T.law_take.m T.law_take.F.kp T.law_take.b .nil pass0 (pa_cons (pv 2) (pa_cons pe_int pa_nil))) pa_nil)) (by rfl))
    (pss_cons (ps_par (i := 5) (j := 6) (by rfl) sc_law.nd rfl rfl (by decide) rfl rfl (pa_cons (pe_ifExp (PW.pt (pw_and (pt_cmpR op_eq (pv 3) pe_int (nomark _)) (pw_and1 (pt_cmpR op_eq (pv 1) pe_int (nomark _))))) pe_int (pe_callTy call_int1 (by rfl) T.z_int (by decide +kernel) (pa_cons (pe_cmpR op_lt (pv 3) pe_int (nomark _)) pa_nil))) (pa_cons (pe_call (ok_law_take T.toTA1) (hr.mono (by decide)) rfl T.law_take.m T.law_take.F.kp T.law_take.b .nil pass0 (pa_cons (pv 2) (pa_cons pe_int pa_nil))) pa_nil)) (by rfl))
    (pss_cons (ps_par (i := 7) (j := 8) (by rfl) sc_law.nd rfl rfl (by decide) rfl rfl (pa_cons (pe_ix (kixl K) (pe_lst (pa_cons (pe_call (ok_law_take T.toTA1) (hr.mono (by decide)) rfl T.law_take.m T.law_take.F.kp T.law_take.b .nil pass0 (pa_cons (pv 2) (pa_cons pe_int pa_nil))) (pa_cons pe_int (pa_cons pe_int pa_nil)))) (pv 5) (fun _ _ => rfl)) (pa_cons (pe_ix (kixl K) (pe_lst (pa_cons (pe_call (ok_law_take T.toTA1) (hr.mono (by decide)) rfl T.law_take.m T.law_take.F.kp T.law_take.b .nil pass0 (pa_cons (pv 2) (pa_cons pe_int pa_nil))) (pa_cons (pe_call (ok_law_take T.toTA1) (hr.mono (by decide)) rfl T.law_take.m T.law_take.F.kp T.law_take.b .nil pass0 (pa_cons (pv 2) (pa_cons pe_int pa_nil))) (pa_cons pe_int pa_nil)))) (pv 5) (fun _ _ => rfl)) pa_nil)) (by rfl))
    (pss_cons (ps_set (i := 9) sc_law.nd rfl (Or.inl rfl) (pe_call (ok_law_bests T) (hr.mono (by decide)) rfl T.law_bests.m T.law_bests.F.kp T.law_bests.b .nil pass0 (pa_cons (pv 7) pa_nil)))
    (pss_cons (ps_set (i := 10) sc_law.nd rfl (Or.inl rfl) (pe_call (ok_law_row T) (hr.mono (by decide)) rfl T.law_row.m T.law_row.F.kp T.law_row.b .nil pass0 (pa_cons (pv 2) (pa_cons (pv 8) (pa_cons (pe_call (ok_law_bests T) (hr.mono (by decide)) rfl T.law_bests.m T.law_bests.F.kp T.law_bests.b .nil pass0 (pa_cons (pe_ix (kixl K) (pe_lst (pa_cons pe_int (pa_cons pe_int (pa_cons pe_int pa_nil)))) (pv 5) (fun _ _ => rfl)) pa_nil)) pa_nil)))))
    (pss_cons (ps_set (i := 11) sc_law.nd rfl (Or.inl rfl) (pe_call (ok_law_due T) (hr.mono (by decide)) rfl T.law_due.m T.law_due.F.kp T.law_due.b .nil pass0 (pa_cons (pv 10) (pa_cons (pv 9) pa_nil))))
    (pss_cons (ps_if (pt_not (pt_val (pe_call (ok_law_told_right T) (hr.mono (by decide)) rfl T.law_told_right.m T.law_told_right.F.kp T.law_told_right.b .nil pass0 (pa_cons (pv 10) (pa_cons (pv 7) (pa_cons (pv 11) (pa_cons (pv 6) (pa_cons (pe_cmpR op_lt (pv 5) pe_int (nomark _)) pa_nil)))))))) (pss_one (ps_ret pe_bl)) pss_nil)
    (pss_cons (ps_set (i := 12) sc_law.nd rfl (Or.inr rfl) (pe_call (ok_law_near T) (hr.mono (by decide)) rfl T.law_near.m T.law_near.F.kp T.law_near.b .nil pass0 (pa_cons (pv 2) (pa_cons (pv 11) pa_nil))))
    (pss_cons (ps_set (i := 12) sc_law.nd rfl (Or.inr rfl) (pe_op op_cat (pe_op op_cat (pe_lst (pa_cons (pv 11) pa_nil)) (pe_slice (kslL K) (pe_call (ok_law_truths T) (hr.mono (by decide)) rfl T.law_truths.m T.law_truths.F.kp T.law_truths.b .nil pass0 (pa_cons (pv 11) pa_nil)) po_none (po_some (pe_op op_sub pe_int (pv 5))))) (pe_lc (own := [("turn", 16)]) (g := gName 16) (by rfl) sc_law.nd (pi_range1 rfl T.z_range (pa_cons (pe_ix (kixl K) (pe_lst (pa_cons pe_int (pa_cons pe_int (pa_cons pe_int pa_nil)))) (pv 5) (fun _ _ => rfl)) pa_nil)) (blkOk_by (own := [("turn", 16)]) (N := ["script", "k", "box", "great", "spoil", "size", "named", "most", "many", "bests", "row", "due", "asked", "other", "at", "value", "turn"]) (sc := defScope s_law) (by decide +kernel)) (fun _ _ _ _ _ => (pg_name (i := 16) sc_law.nd rfl (Or.inl rfl))) (fun _ _ _ _ _ => pts_nil) (fun _ _ _ _ _ => (pe_ix (kixl K) (pv 12) (pe_call (ok_law_take T.toTA1) (hr.mono (by decide)) rfl T.law_take.m T.law_take.F.kp T.law_take.b .nil pass0 (pa_cons (pv 2) (pa_cons (pe_callB (klen K) (by rfl) T.z_len (by decide +kernel) (pa_cons (pv 12) pa_nil)) pa_nil))) (fun _ _ => rfl))))))
    (pss_cut (ps_if (PW.pt (pw_and (pt_cmpR op_eq (pv 4) pe_int (nomark _)) (pw_and1 (pt_cmpR (kneD K hr.units) (pv 10) (pe_lst pa_nil) (nomark _))))) (pss_cons (ps_par (i := 13) (j := 14) (by rfl) sc_law.nd rfl rfl (by decide) rfl rfl (pa_cons (pe_callTy (klist K) (by rfl) T.z_list (by decide +kernel) (pa_cons (pv 10) pa_nil)) (pa_cons (pe_call (ok_law_take T.toTA1) (hr.mono (by decide)) rfl T.law_take.m T.law_take.F.kp T.law_take.b .nil pass0 (pa_cons (pv 2) (pa_cons (pe_callB (klen K) (by rfl) T.z_len (by decide +kernel) (pa_cons (pv 10) pa_nil)) pa_nil))) pa_nil)) (by rfl))
    (pss_cons (ps_asg (pe_op op_add pe_int (pe_op op_fdiv (pe_ix (kixl K) (pv 13) (pv 14) (fun _ _ => rfl)) pe_int)) (pg_sub (pv 13) (pv 14) set_list))
    (pss_one (ps_expr (pe_bm PySem.F.plainAttrs_list PySem.F.slot_list_append PySem.F.type_list_append mt_append (pv 12) (pa_cons (pe_call (ok_law_due T) (hr.mono (by decide)) rfl T.law_due.m T.law_due.F.kp T.law_due.b .nil pass0 (pa_cons (pv 13) (pa_cons (pv 9) pa_nil))) pa_nil)))))) pss_nil)
    (pss_one (ps_for PassesOwn.never rfl (kpil K (pv 12)) (pg_name (i := 15) sc_law.nd rfl (Or.inl rfl)) (pss_one (ps_if (pt_not (pt_val (pe_call (ok_law_same T.toTA1) (hr.mono (by decide)) rfl T.law_same.m T.law_same.F.kp T.law_same.b .nil pass0 (pa_cons (pe_call (ok_law_held T) (hr.mono (by decide)) rfl T.law_held.m T.law_held.F.kp T.law_held.b .nil pass0 (pa_cons (pv 10) (pa_cons (pv 7) (pa_cons (pv 15) (pa_cons (pe_call (ok_law_take T.toTA1) (hr.mono (by decide)) rfl T.law_take.m T.law_take.F.kp T.law_take.b .nil pass0 (pa_cons (pv 2) (pa_cons pe_int pa_nil))) pa_nil))))) (pa_cons (pe_call (ok_law_equal T) (hr.mono (by decide)) rfl T.law_equal.m T.law_equal.F.kp T.law_equal.b .nil pass0 (pa_cons (pv 15) (pa_cons (pv 11) pa_nil))) pa_nil))))) (pss_one (ps_ret pe_bl)) pss_nil))))))))))))))))
    (pss_one (ps_ret pe_bl))), ?_⟩
  obtain ⟨n, hn, hn0, hn2⟩ : ∃ n : Int, (if (if (ns.length : Int) < 2 then (ns.length : Int) else 2) > 1 then (if (ns.length : Int) < 2 then (ns.length : Int) else 2) else 1) = n ∧ 0 ≤ n ∧ n ≤ 2 := ⟨_, rfl, by split <;> split <;> omega, by split <;> split <;> omega⟩
  refine ⟨_, rfl, _, ns.length, rfl, .inl ⟨_, ha, (List.length_map ..).symm⟩, _, _, rfl, _, _, rfl, n, by rw [← hn], by omega, by omega, for_range (lo := 0) (n := n.toNat) (fun i σ H' => Ex H H' ∧ ∃ v1 v2 v3 v4 v5 v6 v7 v8 v9 v10 v11 v12 v13 v14 v15 : Option V, σ = [some (.ref a), v1, v2, v3, v4, v5, v6, v7, v8, v9, v10, v11, v12, v13, v14, v15, none]) ⟨Ex.refl _, _, _, _, _, _, _, _, _, _, _, _, _, _, _, _, rfl⟩ ?_ ?_⟩
  · rintro i σ G hi ⟨eg, v1, v2, v3, v4, v5, v6, v7, v8, v9, v10, v11, v12, v13, v14, v15, rfl⟩
    rw [Int.zero_add]
    refine ⟨_, rfl, _, rfl, a, ns, (i : Int), rfl, ex_l eg ha, by omega, by omega, fun v H1 e1 => ⟨v, rfl, fun b H2 hb e2 B2 => ?_⟩⟩
    refine ⟨_, rfl, b, 8, 5000, rfl, by decide, by decide, B2.le (by omega), fun great H3 g0 g1 B3 k3 => ?_⟩
    refine ⟨_, rfl, b, 3, 4999, rfl, by decide, by decide, B3, fun spoil H4 s0 s1 B4 k4 => ⟨_, _, rfl, ?_⟩⟩
    dsimp only
    refine seq_par (cons_ ?_)
    obtain ⟨sz, hsz, evsz⟩ : ∃ sz : Nat, sz ≤ 2 ∧ Ev (tIf (tAnd (tTest (tOp rEq (tVar 3) (tC (V.int 0)))) (tTest (tOp rEq (tVar 1) (tC (V.int 0))))) (tC (V.int 2)) (tCB (fun xs H Q => (∃ i, xs = [V.int i] ∧ Q (V.int i) H) ∨ ∃ k, xs = [V.bl k] ∧ Q (V.int (if k = true then 1 else 0)) H) (tCons (tOp (rI0 fun i j => V.bl (decide (i < j))) (tVar 3) (tC (V.int 3))) tNil)))
        [some (.ref a), some (.int (i : Int)), some (.ref b), some (.int great), some (.int spoil), v5, v6, v7, v8, v9, v10, v11, v12, v13, v14, v15, none] H4 (.int (sz : Int)) := by
      have ts := et_and (σ := [some (.ref a), some (.int (i : Int)), some (.ref b), some (.int great), some (.int spoil), v5, v6, v7, v8, v9, v10, v11, v12, v13, v14, v15, none]) (H := H4) (t := tTest (tOp rEq (tVar 3) (tC (V.int 0)))) (u := tTest (tOp rEq (tVar 1) (tC (V.int 0)))) (et_test (ev_op (ev_var rfl) (ev_c (v := .int 0)) (rv_eq (x := .int great) (y := .int 0) rfl))) (fun _ => et_test (ev_op (ev_var rfl) (ev_c (v := .int 0)) (rv_eq (x := .int (i : Int)) (y := .int 0) rfl)))
      cases c : (decide (V.int great = V.int 0) && decide (V.int (i : Int) = V.int 0)) with
      | true =>
        rw [c] at ts
        exact ⟨2, by omega, ev_if ts (fun _ => ev_c) (fun z => by cases z)⟩
      | false =>
        rw [c] at ts
        have : ∃ sz : Nat, sz ≤ 2 ∧ (if decide (great < 3) = true then (1 : Int) else 0) = (sz : Int) := by
          cases decide (great < 3)
          · exact ⟨0, by omega, rfl⟩
          · exact ⟨1, by omega, rfl⟩
        obtain ⟨sz, h1, h2⟩ := this
        refine ⟨sz, h1, ev_if ts (fun z => by cases z) fun _ => ?_⟩
        rw [← h2]
        exact fun H5 e5 Q q => ⟨_, rfl, _, _, rfl, rfl, .inr ⟨_, rfl, q _ (Ex.refl _)⟩⟩
    refine evsz H4 (Ex.refl _) _ fun H5 e5 => ?_
    refine ⟨_, rfl, b, 3, 4998, rfl, by decide, by decide, B4.ex e5, fun named H6 m0 m1 B6 k6 => ⟨_, _, rfl, ?_⟩⟩
    refine ⟨_, rfl, b, 6, 4997, rfl, by decide, by decide, B6, fun t6 H7 t60 t61 B7 k7 => ⟨three_le, fun l1 hl1 => ?_⟩⟩
    obtain ⟨t, rfl, ht6⟩ : ∃ t : Nat, t6 = (t : Int) ∧ t < 6 := ⟨t6.toNat, by omega, by omega⟩
    obtain ⟨MO, hMO, hMO16⟩ : ∃ M : Nat, [V.int (t : Int), .int 8, .int 16][sz]? = some (.int (M : Int)) ∧ M ≤ 16 := by
      rcases (by omega : sz = 0 ∨ sz = 1 ∨ sz = 2) with rfl | rfl | rfl
      · exact ⟨t, rfl, by omega⟩
      · exact ⟨8, rfl, by omega⟩
      · exact ⟨16, rfl, by omega⟩
    refine ⟨_, rfl, l1, _, _, .int (MO : Int), rfl, rfl, SqL.of upd_same, atI_nat hMO, ?_⟩
    have el1 := Ex.new (o := .lst [V.int (t : Int), .int 8, .int 16]) hl1
    have B8 := B7.ex el1
    generalize upd H7 l1 (.lst [V.int (t : Int), .int 8, .int 16]) = H8 at el1 B8 ⊢
    refine ⟨_, rfl, b, 6, 4996, rfl, by decide, by decide, B8, fun u6 H9 u60 u61 B9 k9 => ?_⟩
    refine ⟨_, rfl, b, 9, 4995, rfl, by decide, by decide, B9, fun u9 H10 u90 u91 B10 k10 => ⟨three_le, fun l2 hl2 => ?_⟩⟩
    obtain ⟨x6, rfl, hx6⟩ : ∃ t : Nat, u6 = (t : Int) ∧ t < 6 := ⟨u6.toNat, by omega, by omega⟩
    obtain ⟨x9, rfl, hx9⟩ : ∃ t : Nat, u9 = (t : Int) ∧ t < 9 := ⟨u9.toNat, by omega, by omega⟩
    obtain ⟨MA, hMA, hMA16⟩ : ∃ M : Nat, [V.int (x6 : Int), .int (x9 : Int), .int 16][sz]? = some (.int (M : Int)) ∧ M ≤ 16 := by
      rcases (by omega : sz = 0 ∨ sz = 1 ∨ sz = 2) with rfl | rfl | rfl
      · exact ⟨x6, rfl, by omega⟩
      · exact ⟨x9, rfl, by omega⟩
      · exact ⟨16, rfl, by omega⟩
    refine ⟨_, rfl, l2, _, _, .int (MA : Int), rfl, rfl, SqL.of upd_same, atI_nat hMA, _, _, rfl, ?_⟩
    have el2 := Ex.new (o := .lst [V.int (x6 : Int), .int (x9 : Int), .int 16]) hl2
    have B11 := B10.ex el2
    have k211 : But b H2 (upd H10 l2 (.lst [V.int (x6 : Int), .int (x9 : Int), .int 16])) := ((((((k3.trans k4).trans (But.of e5)).trans k6).trans k7).trans (But.of el1)).trans (k9.trans k10)).trans (But.of el2)
    generalize upd H10 l2 (.lst [V.int (x6 : Int), .int (x9 : Int), .int 16]) = H11 at el2 B11 k211 ⊢
    refine ⟨_, rfl, MO, rfl, hMO16, fun bs H12 e12 rb => ?_⟩
    have B12 := B11.ex e12
    have okb12 : ∀ a, H11 a = none → a ≠ b := fun a h => B11.ne h
    refine gn_ ?_
    obtain ⟨NB, hNB, hNB1, hNB16⟩ : ∃ M : Nat, [V.int 5, .int 8, .int 8][sz]? = some (.int (M : Int)) ∧ 1 ≤ M ∧ M ≤ 16 := by
      rcases (by omega : sz = 0 ∨ sz = 1 ∨ sz = 2) with rfl | rfl | rfl
      · exact ⟨5, rfl, by omega, by omega⟩
      · exact ⟨8, rfl, by omega, by omega⟩
      · exact ⟨8, rfl, by omega, by omega⟩
    refine ⟨_, rfl, _, rfl, three_le, fun l3 hl3 => ⟨_, rfl, l3, _, _, .int (NB : Int), rfl, rfl, SqL.of upd_same, atI_nat hNB, NB, rfl, hNB16, fun bp H14 e14' rbp => ?_⟩⟩
    have B13 := B12.ex (Ex.new (o := .lst [V.int 5, .int 8, .int 8]) hl3)
    have okb13 : ∀ a, (upd H12 l3 (.lst [V.int 5, .int 8, .int 8])) a = none → a ≠ b := fun a h => B13.ne h
    have e14 := (Ex.new (o := .lst [V.int 5, .int 8, .int 8]) hl3).trans e14'
    have B14 := B12.ex e14
    refine ⟨b, bp, MA, 4900, NB, 2, _, rfl, B14.le (by omega), rbp, okb13, hNB1, hNB16, hMA16, fun F rs H15 hF0 hF rok B15 k15 => ?_⟩
    refine gn_ ?_
    have k1415 := (But.of e14).trans k15
    have Fb : F ≠ b := B14.ne hF0
    have rb15 := (rb.but k1415 okb12)
    refine ⟨_, rfl, _, rfl, F, bs, rs, MO, 2, _, rfl, SqL.of hF, by have := rok.1; omega, hMO16, rb15, fun dq H16 e16 rd => ?_⟩
    refine gn_ ?_
    have B16 := B15.ex e16
    have okb15 : ∀ a, H15 a = none → a ≠ b := fun a h => B15.ne h
    have Sl := stairsM_len MO rs
    have r16 := rok.1
    have k216 : But b H2 H16 := ((k211.trans (But.of e12)).trans k1415).trans (But.of e16)
    refine ⟨_, rfl, _, rfl, _, rfl, _, rfl, _, rfl, _, _, rfl, rfl, F, MO, rs, .ref dq, 2, _, named, _, rfl, e16 _ _ hF, rok, hMO16, rd, by omega, m0, fun H17 e17 => ⟨true, rfl, iteF ?_⟩⟩
    have B17 := B16.ex e17
    have rd17 := rd.ex e17
    obtain ⟨ts, dA⟩ := due_at (S := isB b) rd17 (fun a h => okb15 a h) (by omega) (by omega) (fun s hs => stairsM_in s hs) hMO16
    refine ⟨_, rfl, _, rfl, b, dq, MO, 4800, ts, stairsM MO rs, rfl, B17.le (by omega), dA, fun nv H18 k18 B18 lpN => ?_⟩
    refine gn_ ?_
    have dA18 := dA.but isB_self k18
    have rd18 := rd17.but k18 okb15
    have hF18 := k18 _ _ Fb (e17 _ _ (e16 _ _ hF))
    have ct18 : Ct (isB b) H18 := fun a ha => by
      obtain ⟨zs, hz⟩ := box_lst B18
      exact ⟨_, by rw [ha]; exact hz⟩
    have k218 : But b H2 H18 := (k216.trans (But.of e17)).trans k18
    obtain ⟨np, xsN, rfl, hN, nbN, nl0, nl1, aN⟩ := lpN
    have pre := em_cat (P := Av K T.C 3) (S := isB b) (H := H18) (σ := [some (.ref a), some (.int (i : Int)), some (.ref b), some (.int great), some (.int spoil), some (.int (sz : Int)), some (.int named), some (.int (MO : Int)), some (.int (MA : Int)), some (.ref bs), some (.ref F), some (.ref dq), some (.ref np), v13, v14, v15, none]) (te := tLst (tCons (tVar 11) tNil)) (tb := tSl (rSlL K) (tCall (spTruths K T.C) [] E0 (tCons (tVar 11) tNil)) tNoPart (tPart (tOp (rI0 fun i j => V.int (i - j)) (tC (V.int 2)) (tVar 5)))) (lo := 1) (hi := 1) (lo' := 0) (hi' := 600) cl_av ct18
      (em_lst1 cl_av ct18 (em_of cl_av (ev_var rfl) ((Av.up dA18.lpA (by omega)).succ)))
      (em_sl cl_av ct18 (lo := 0) (fun H1 e1 Q q => ⟨_, rfl, isB b, MO, dq, ts, stairsM MO rs, rfl, ct18.ex e1, dA18.ex e1, fun v H' e lp => q v H' e (lp.mono (fun x r => r.succ) (Nat.le_refl _) (Nat.le_refl _))⟩) eo_none (eo_some (ev_op ev_c (ev_var rfl) rv_I0))) (by omega)
    dsimp only
    refine seq_asg (top_ ?_)
    refine pre H18 (Ex.refl _) _ fun pv H19 e19 lp1 => ?_
    obtain ⟨p1, xs1, rfl, h1, nb1, l10, l11, a1⟩ := lp1
    have hN19 := e19 _ _ hN
    have aN19 : ∀ x ∈ xsN, Av K T.C 3 (isB b) x H19 := fun x hx => cl_av.ex e19 (aN x hx)
    have B19 := B18.ex e19
    obtain ⟨bz, hbz⟩ := box_lst B19
    obtain ⟨CT, hCT, hCT20⟩ : ∃ M : Nat, [V.int 20, .int 8, .int 1][sz]? = some (.int (M : Int)) ∧ M ≤ 20 := by
      rcases (by omega : sz = 0 ∨ sz = 1 ∨ sz = 2) with rfl | rfl | rfl
      · exact ⟨20, rfl, by omega⟩
      · exact ⟨8, rfl, by omega⟩
      · exact ⟨1, rfl, by omega⟩
    refine lc_inv (n := (CT : Int)) (j := 16) (vs := [16]) (fun i D H' => BoxAt H' b (4700 + (20 - i)) ∧ But b H19 H' ∧ H19 D = none ∧ ∃ ys, H' D = some (.lst ys) ∧ ys.length = i ∧ ∀ y ∈ ys, Av K T.C 3 (addS (isB b) D) y H') (ea_cons (ev_sel rfl hCT (by show 3 ≤ 900; decide) (ea_cons ev_c (ea_cons ev_c (ea_cons ev_c ea_nil)))) ea_nil) (by omega) (fun _ => rfl) (fun H1 D e1 hD => ?_) (fun t D H' ht p => ?_) (fun D H' p => ?_)
    · have Db : D ≠ b := (B19.ex e1).ne hD
      exact ⟨box_mut ((B19.ex e1).le (by omega)) Db, butMut (But.of e1) (fresh_back e1 hD), fresh_back e1 hD, [], upd_same, rfl, fun y hy => by cases hy⟩
    · obtain ⟨B, kb, hD, ys, hys, hyl, hya⟩ := p
      have nbp : np ≠ b := fun z => nbN z
      have Db : D ≠ b := B19.ne hD
      refine ⟨_, rfl, _, rfl, _, rfl, _, xsN.length, rfl, .inl ⟨_, SqL.of (kb _ _ nbp hN19), rfl⟩, b, (xsN.length : Int), 4700 + (20 - (t + 1)), rfl, by omega, by omega, B.le (by omega), fun r H2 r0 r1 B2 k2 => ?_⟩
      have kb2 := kb.trans k2
      obtain ⟨x, hx, hx2⟩ := at_get (xs := xsN) r0 r1
      refine ⟨np, xsN, r, x, rfl, rfl, SqL.of (kb2 _ _ nbp hN19), hx, ys, k2 _ _ Db hys, small1000 (by omega), box_mut B2 Db, butMut kb2 hD, hD, ys ++ [x], upd_same, by rw [List.length_append, hyl]; rfl, fun y hy => ?_⟩
      obtain ⟨bz', hbz'⟩ := box_lst B
      rcases List.mem_append.mp hy with hy | hy
      · exact cl_av.mt (.inr rfl) (k2 _ _ Db hys) (Av.but (D := b) (.inl isB_self) hbz' k2 (hya y hy))
      · rw [List.mem_singleton] at hy
        rw [hy]
        exact cl_av.mt (.inr rfl) (k2 _ _ Db hys) (Av.but (D := b) (.inl isB_self) hbz kb2 (cl_av.new hD (aN19 x (List.mem_of_getElem? hx2))))
    · obtain ⟨B, kb, hD, ys, hys, hyl, hya⟩ := p
      have n1b : p1 ≠ b := fun z => nb1 z
      have hyl' : ys.length ≤ 20 := by omega
      refine ⟨p1, D, xs1, ys, rfl, rfl, kb _ _ n1b h1, hys, Nat.le_of_lt (small1000 (by omega)), fun z hz => ?_⟩
      have ez := Ex.new (o := .lst (xs1 ++ ys)) hz
      have zb : z ≠ b := B.ne hz
      have z18 : H18 z = none := fresh_back e19 (kb.none hbz hz zb)
      have hzz : upd H' z (.lst (xs1 ++ ys)) z = some (.lst (xs1 ++ ys)) := upd_same
      have az : ∀ x ∈ xs1 ++ ys, Av K T.C 3 (addS (isB b) z) x (upd H' z (.lst (xs1 ++ ys))) := fun x hx => by
        refine cl_av.ex ez (cl_av.new hz ?_)
        rcases List.mem_append.mp hx with hx | hx
        · exact Av.but isB_self hbz kb (a1 x hx)
        · exact cl_av.less (fun a h => .inl h) (hya x hx)
      have lz : (xs1 ++ ys).length ≤ 630 := by rw [List.length_append]; omega
      have B20 := (B.le (show 4700 ≤ _ by omega)).ex ez
      have k20 : But b H18 (upd H' z (.lst (xs1 ++ ys))) := ((But.of e19).trans kb).trans (But.of ez)
      generalize upd H' z (.lst (xs1 ++ ys)) = H20 at hzz az B20 k20 ⊢
      generalize xs1 ++ ys = xsA at hzz az lz
      refine gn_ ?_
      have hF20 := k20 _ _ Fb hF18
      refine ⟨fun σ H' => But b H18 H' ∧ BoxAt H' b 4000 ∧ ∃ (xs : List V) (o1 o2 : Option V), H' z = some (.lst xs) ∧ xs.length ≤ 700 ∧ (∀ x ∈ xs, Av K T.C 3 (isB b) x H') ∧ σ = [some (.ref a), some (.int (i : Int)), some (.ref b), some (.int great), some (.int spoil), some (.int (sz : Int)), some (.int named), some (.int (MO : Int)), some (.int (MA : Int)), some (.ref bs), some (.ref F), some (.ref dq), some (.ref z), o1, o2, v15, none], ?_, ?_⟩
      · have stay : ∀ H', Ex H20 H' → (fun σ H' => But b H18 H' ∧ BoxAt H' b 4000 ∧ ∃ (xs : List V) (o1 o2 : Option V), H' z = some (.lst xs) ∧ xs.length ≤ 700 ∧ (∀ x ∈ xs, Av K T.C 3 (isB b) x H') ∧ σ = [some (V.ref a), some (.int (i : Int)), some (.ref b), some (.int great), some (.int spoil), some (.int (sz : Int)), some (.int named), some (.int (MO : Int)), some (.int (MA : Int)), some (.ref bs), some (.ref F), some (.ref dq), some (.ref z), o1, o2, v15, none]) [some (V.ref a), some (.int (i : Int)), some (.ref b), some (.int great), some (.int spoil), some (.int (sz : Int)), some (.int named), some (.int (MO : Int)), some (.int (MA : Int)), some (.ref bs), some (.ref F), some (.ref dq), some (.ref z), v13, v14, v15, none] H' := fun H' e => ⟨k20.trans (But.of e), (B20.ex e).le (by omega), xsA, _, _, e _ _ hzz, by omega, fun x hx => cl_av.less (fun a h => .inl h) (cl_av.ex e (az x hx)), rfl⟩
        refine ⟨_, rfl, rfl, _, rfl, ite2 (fun _ => ?_) (fun _ => iteF (stay _ (Ex.refl _)))⟩
        refine ⟨_, rfl, Nat.zero_le _, fun y hy => ?_⟩
        have ey := Ex.new (o := .lst []) hy
        have rdw : Rd K (fun _ => True) (upd H20 y (.lst [])) 1 (.ref F) (.list (rs.map PyData.int)) := rd_ilist (ey _ _ hF20) trivial (by omega)
        have rde : Rd K (fun _ => True) (upd H20 y (.lst [])) 1 (.ref y) (.list []) := .lst upd_same trivial rfl (Nat.zero_le _) (fun i x d hx _ => by cases hx)
        refine ⟨_, _, rdw.dp, rde.dp, rdw.shaped (by omega), rde.shaped (by omega), _, rfl, ?_⟩
        have e21 := ey
        generalize upd H20 y (.lst []) = H21 at e21 ⊢
        have key : ∀ l : List Int, PyData.eqv (.list (l.map PyData.int)) (.list []) = l.isEmpty := fun l => by cases l <;> rfl
        rw [key]
        cases he : rs.isEmpty with
        | true => exact iteF (stay H21 e21)
        | false =>
        have rpos : 0 < rs.length := by
          cases hrs : rs with
          | nil => rw [hrs] at he; cases he
          | cons x l => rw [List.length_cons]; omega
        refine iteT ?_
        have hF21 := e21 _ _ hF20
        refine ⟨_, rfl, F, _, rfl, .inl (SqL.of hF21), fun l hl => ?_⟩
        have el := Ex.new (o := .lst (rs.map V.int)) hl
        have e22 := e21.trans el
        have B22 := B20.ex e22
        have lb : l ≠ b := (B20.ex e21).ne hl
        have hll : upd H21 l (.lst (rs.map V.int)) l = some (.lst (rs.map V.int)) := upd_same
        have l20 : H20 l = none := fresh_back e21 hl
        refine ⟨_, rfl, _, rfl, _, rs.length, rfl, .inl ⟨_, SqL.of (e22 _ _ hF20), (List.length_map ..).symm⟩, b, (rs.length : Int), 4600, rfl, by omega, by omega, B22.le (by omega), fun at_ H23 q0 q1 B23 k23 => ⟨_, _, rfl, ?_⟩⟩
        have hl23 := k23 _ _ lb hll
        obtain ⟨A, rfl, hA⟩ : ∃ A : Nat, at_ = (A : Int) ∧ A < rs.length := ⟨at_.toNat, by omega, by omega⟩
        obtain ⟨zv, hzv⟩ : ∃ zv, rs[A]? = some zv := ⟨_, List.getElem?_eq_getElem hA⟩
        refine ⟨_, rfl, _, rfl, l, _, (A : Int), .int zv, rfl, rfl, SqL.of hl23, atI_nat (by rw [List.getElem?_map, hzv]; rfl), _, _, rfl, rfl, ⟨by decide, by decide⟩, _, _, rfl, rfl, _, rfl, _, rfl, l, _, (A : Int), A, rfl, rfl, hl23, ixN_nat (by rw [List.length_map]; exact hA), ?_⟩
        have k2023 : But b H20 H23 := (But.of e22).trans k23
        have k24 : But b H20 (upd H23 l (.lst ((rs.map V.int).set A (.int (1 + zv / 2))))) := butMut k2023 l20
        have B24 := box_mut (o := .lst ((rs.map V.int).set A (.int (1 + zv / 2)))) B23 lb
        have hl24 : upd H23 l (.lst ((rs.map V.int).set A (.int (1 + zv / 2)))) l = some (.lst ((rs.set A (1 + zv / 2)).map V.int)) := by rw [upd_same, List.map_set]
        generalize upd H23 l (.lst ((rs.map V.int).set A (.int (1 + zv / 2)))) = H24 at k24 B24 hl24 ⊢
        have k1524 : But b H15 H24 := (((But.of (e16.trans e17)).trans k18).trans k20).trans k24
        have hz24 := k24 _ _ zb hzz
        refine ⟨_, rfl, .inl ⟨rfl, _, SqL.of hz24⟩, _, rfl, _, rfl, l, bs, rs.set A (1 + zv / 2), MO, 2, _, rfl, SqL.of hl24, by rw [List.length_set]; omega, hMO16, rb15.but k1524 okb12, fun d2 H25 e25 rd2 => ?_⟩
        have okz : ∀ a, H24 a = none → ¬ addS (isB b) z a := fun a h w => w.elim (fun w => B24.ne h w) fun w => by rw [w, hz24] at h; cases h
        obtain ⟨ts2, dA2⟩ := due_at (S := addS (isB b) z) rd2 okz (by rw [stairsM_len]; omega) (by rw [stairsM_len, List.length_set]; omega) (fun s hs => stairsM_in s hs) hMO16
        have hz25 := e25 _ _ hz24
        refine ⟨z, _, _, rfl, rfl, hz25, small1000 (by omega), ?_, box_mut ((B24.ex e25).le (by omega)) zb, xsA ++ [.ref d2], _, _, upd_same, by rw [List.length_append, List.length_singleton]; omega, fun x hx => ?_, rfl⟩
        · exact butMut ((k20.trans k24).trans (But.of e25)) z18
        · refine cl_av.less (S := addS (isB b) z) (fun a h => .inl h) ?_
          rcases List.mem_append.mp hx with hx | hx
          · obtain ⟨bz2, hbz2⟩ := box_lst B20
            exact cl_av.mt (.inr rfl) hz25 (cl_av.ex e25 (Av.but (D := b) (.inl isB_self) hbz2 k24 (az x hx)))
          · rw [List.mem_singleton] at hx
            rw [hx]
            exact cl_av.mt (.inr rfl) hz25 ((Av.up dA2.lpA (by omega)).succ)
      · rintro σ H' ⟨k21, B21, xs, o1, o2, hzx, lx, ax, rfl⟩
        obtain ⟨bz3, hbz3⟩ := box_lst B21
        have rd21 : Rd K (fun a => H15 a = none) H' 2 (.ref dq) (linesP (stairsM MO rs)) := rd18.but k21 okb15
        have hF21 := k21 _ _ Fb hF18
        refine ⟨_, rfl, z, rfl, ⟨_, SqL.of hzx⟩, for_list (xs := xs) (fun t σ G' => But b H' G' ∧ BoxAt G' b (3000 + (900 - t)) ∧ ∃ u15 : Option V, σ = [some (.ref a), some (.int (i : Int)), some (.ref b), some (.int great), some (.int spoil), some (.int (sz : Int)), some (.int named), some (.int (MO : Int)), some (.int (MA : Int)), some (.ref bs), some (.ref F), some (.ref dq), some (.ref z), o1, o2, u15, none])
          ⟨But.of (Ex.refl _), B21.le (by omega), _, rfl⟩ (fun t σ G' _ h => SqL.of (h.1 _ _ zb hzx)) ?_ ?_⟩
        · rintro t x σ G1 hx ⟨kG, BG, u15, rfl⟩
          have htl := (List.getElem?_eq_some_iff.mp hx).1
          have ax1 := ax x (List.mem_of_getElem? hx)
          refine gn_ ?_
          refine ⟨_, rfl, _, rfl, _, rfl, _, rfl, b, 2, 3000 + (900 - (t + 1)), rfl, by decide, by decide, BG.le (by omega), fun r G2 r0 r1 B2 k2 => ?_⟩
          have kG2 := kG.trans k2
          obtain ⟨d, ro⟩ := Av.but isB_self hbz3 kG2 ax1
          refine ⟨F, MO, rs, x, d, 3, r, rfl, kG2 _ _ Fb hF21, rok, hMO16, ro.of fun a h => h.1, by omega, fun G3 e3 => ?_⟩
          refine ⟨_, rfl, _, rfl, x, .ref dq, d, stairsM MO rs, 3, 2, _, _, rfl, ro.ex e3, (rd21.but kG2 okb15).ex e3, fun G4 e4 => ?_⟩
          refine ⟨_, _, rfl, .bl _, fun G5 e5 => ⟨true, rfl, iteF ?_⟩⟩
          have e35 := e3.trans (e4.trans e5)
          exact ⟨kG2.trans (But.of e35), B2.ex e35, _, rfl⟩
        · rintro σ G1 ⟨kG, BG, u15, rfl⟩
          exact ⟨(eg.trans e1).trans (ex_but hb ((But.of e2).trans (k218.trans (k21.trans kG)))), _, _, _, _, _, _, _, _, _, _, _, _, _, _, _, rfl⟩
  · rintro σ H' ⟨_, v1, v2, v3, v4, v5, v6, v7, v8, v9, v10, v11, v12, v13, v14, v15, rfl⟩
    exact q _
end
end L2.U


set_option Elab.async false
set_option linter.all false
set_option maxRecDepth 100000
set_option maxHeartbeats 4000000
namespace L2.U
open PySem PySem.Spec PyProof.Rows Evl
theorem exm_of {K : PySem.W.Frag} {C D : Addr} {b : Bool} (h1 : PySem.W.subIn K (.ref D) (.type "BaseException") = some true) (h2 : PySem.W.isClsIn K D = true) (h3 : PySem.W.typeIn K (.ref D) = some (.type "type"))
    (h4 : PySem.W.subIn K (.ref C) (.ref D) = some b) : PySem.W.exmOne K (.ref C) (.ref D) = some b := by
  have h2' : (PySem.W.clsIn K D).isSome = true := h2
  unfold PySem.W.exmOne
  rw [h1, if_pos (by rfl)]
  unfold PySem.W.kitCls
  simp only [h2', h3, h4, beq_self_eq_true, Bool.and_self, if_true]
theorem clsAt_mk {K : PySem.W.Frag} {C : Addr} (cl : Cls K C) (ha : PySem.W.findIn K (.ref C) "__class__" = some (some (.builtin "object.__class__"))) (hn : PySem.W.specialIn K (.builtin "object.__class__") "__get__" = some (some (.builtin "getset_descriptor.__get__"))) (htk : PySem.W.takesIn K (.builtin "object.__class__") = some true) (hm : PySem.W.mroIn K C (.type "object") = some true) (ic : PySem.W.isClsIn K C = true) (ty : PySem.W.typeIn K (.ref C) = some (.type "type"))
    (no : ∀ t ∈ ["list", "tuple", "int", "bool", "str", "dict"], PySem.W.subIn K (.ref C) (.type t) = some false) (su : ∀ t ∈ ["NoneType", "bool", "int", "str", "list", "tuple", "dict"], PySem.W.subIn K (.type t) (.ref C) = some false) : ClsAt K C := ⟨cl, ha, hn, htk, hm, no, ic, ty, su⟩
def mkDef {K : PySem.W.Frag} {h : Heap} {mg : Str → Option Value} (X : K.In h) (G : h.Ns mainGlobals mg) {x : Str} {st : Stmt} {ps : List Str} {f : Addr} {od an : Option Addr} {sl : Array (Option Value)} {oc kV dc pm cd ct : Value}
    (a : PySem.W.nsIn K mainGlobals x = some (some (.ref f))) (l : K.lookup f = some ⟨oc, od, .func (PySem.W.fnOf x x (defArgs st) (defBody st) (defScope st) .none kV dc pm an cd ct), sl⟩) (c : PySem.W.codeIn K cd x = true) (k : PySem.W.keepIn K (.ref f) = true)
    (h2 : ∀ (kV doc pm : Value) (an : Option Addr) (cdv ct : Value) (us : List Value), us.length = ps.length → bindArgs (PySem.W.fnOf x x (defArgs st) (defBody st) (defScope st) .none kV doc pm an cdv ct) ⟨us, []⟩ = pure (ps.zip us)) : DefAt K mg x st ps :=
  ⟨f, _, fun_mk (st := st) l c k, PySem.W.mg_of X G a, (fun_mk (st := st) l c k).binds h2⟩

theorem all_mk {l : PySem.W.OpenLaw} {w : World} {K : PySem.W.Frag} {h : Heap} {mg : Str → Option Value} {fa : Addr} (X : K.In h) (G : h.Ns mainGlobals mg) (hfa : mg "law" = some (.ref fa))
    {f1 : Addr} {od1 an1 : Option Addr} {sl1 : Array (Option Value)} {oc1 kV1 dc1 pm1 cd1 ct1 : Value}
    {f2 : Addr} {od2 an2 : Option Addr} {sl2 : Array (Option Value)} {oc2 kV2 dc2 pm2 cd2 ct2 : Value}
    {f3 : Addr} {od3 an3 : Option Addr} {sl3 : Array (Option Value)} {oc3 kV3 dc3 pm3 cd3 ct3 : Value}
    {f4 : Addr} {od4 an4 : Option Addr} {sl4 : Array (Option Value)} {oc4 kV4 dc4 pm4 cd4 ct4 : Value}
    {f5 : Addr} {od5 an5 : Option Addr} {sl5 : Array (Option Value)} {oc5 kV5 dc5 pm5 cd5 ct5 : Value}
    {f6 : Addr} {od6 an6 : Option Addr} {sl6 : Array (Option Value)} {oc6 kV6 dc6 pm6 cd6 ct6 : Value}
    {f7 : Addr} {od7 an7 : Option Addr} {sl7 : Array (Option Value)} {oc7 kV7 dc7 pm7 cd7 ct7 : Value}
    {f8 : Addr} {od8 an8 : Option Addr} {sl8 : Array (Option Value)} {oc8 kV8 dc8 pm8 cd8 ct8 : Value}
    {f9 : Addr} {od9 an9 : Option Addr} {sl9 : Array (Option Value)} {oc9 kV9 dc9 pm9 cd9 ct9 : Value}
    {f10 : Addr} {od10 an10 : Option Addr} {sl10 : Array (Option Value)} {oc10 kV10 dc10 pm10 cd10 ct10 : Value}
    {f11 : Addr} {od11 an11 : Option Addr} {sl11 : Array (Option Value)} {oc11 kV11 dc11 pm11 cd11 ct11 : Value}
    {f12 : Addr} {od12 an12 : Option Addr} {sl12 : Array (Option Value)} {oc12 kV12 dc12 pm12 cd12 ct12 : Value}
    {f13 : Addr} {od13 an13 : Option Addr} {sl13 : Array (Option Value)} {oc13 kV13 dc13 pm13 cd13 ct13 : Value}
    {f14 : Addr} {od14 an14 : Option Addr} {sl14 : Array (Option Value)} {oc14 kV14 dc14 pm14 cd14 ct14 : Value}
    {f15 : Addr} {od15 an15 : Option Addr} {sl15 : Array (Option Value)} {oc15 kV15 dc15 pm15 cd15 ct15 : Value}
    {f16 : Addr} {od16 an16 : Option Addr} {sl16 : Array (Option Value)} {oc16 kV16 dc16 pm16 cd16 ct16 : Value}
    {f17 : Addr} {od17 an17 : Option Addr} {sl17 : Array (Option Value)} {oc17 kV17 dc17 pm17 cd17 ct17 : Value}
    {f18 : Addr} {od18 an18 : Option Addr} {sl18 : Array (Option Value)} {oc18 kV18 dc18 pm18 cd18 ct18 : Value}
    {f19 : Addr} {od19 an19 : Option Addr} {sl19 : Array (Option Value)} {oc19 kV19 dc19 pm19 cd19 ct19 : Value}
    {f20 : Addr} {od20 an20 : Option Addr} {sl20 : Array (Option Value)} {oc20 kV20 dc20 pm20 cd20 ct20 : Value}
    {f21 : Addr} {od21 an21 : Option Addr} {sl21 : Array (Option Value)} {oc21 kV21 dc21 pm21 cd21 ct21 : Value}
    {f22 : Addr} {od22 an22 : Option Addr} {sl22 : Array (Option Value)} {oc22 kV22 dc22 pm22 cd22 ct22 : Value}
    {f23 : Addr} {od23 an23 : Option Addr} {sl23 : Array (Option Value)} {oc23 kV23 dc23 pm23 cd23 ct23 : Value}
    {f24 : Addr} {od24 an24 : Option Addr} {sl24 : Array (Option Value)} {oc24 kV24 dc24 pm24 cd24 ct24 : Value}
    {f25 : Addr} {od25 an25 : Option Addr} {sl25 : Array (Option Value)} {oc25 kV25 dc25 pm25 cd25 ct25 : Value}
    {f26 : Addr} {od26 an26 : Option Addr} {sl26 : Array (Option Value)} {oc26 kV26 dc26 pm26 cd26 ct26 : Value}
    {f27 : Addr} {od27 an27 : Option Addr} {sl27 : Array (Option Value)} {oc27 kV27 dc27 pm27 cd27 ct27 : Value}
    {f28 : Addr} {od28 an28 : Option Addr} {sl28 : Array (Option Value)} {oc28 kV28 dc28 pm28 cd28 ct28 : Value}
    {f29 : Addr} {od29 an29 : Option Addr} {sl29 : Array (Option Value)} {oc29 kV29 dc29 pm29 cd29 ct29 : Value}
    {f30 : Addr} {od30 an30 : Option Addr} {sl30 : Array (Option Value)} {oc30 kV30 dc30 pm30 cd30 ct30 : Value}
    {f31 : Addr} {od31 an31 : Option Addr} {sl31 : Array (Option Value)} {oc31 kV31 dc31 pm31 cd31 ct31 : Value}
    {f32 : Addr} {od32 an32 : Option Addr} {sl32 : Array (Option Value)} {oc32 kV32 dc32 pm32 cd32 ct32 : Value}
    {f33 : Addr} {od33 an33 : Option Addr} {sl33 : Array (Option Value)} {oc33 kV33 dc33 pm33 cd33 ct33 : Value}
    {f34 : Addr} {od34 an34 : Option Addr} {sl34 : Array (Option Value)} {oc34 kV34 dc34 pm34 cd34 ct34 : Value}
    {f35 : Addr} {od35 an35 : Option Addr} {sl35 : Array (Option Value)} {oc35 kV35 dc35 pm35 cd35 ct35 : Value}
    {f36 : Addr} {od36 an36 : Option Addr} {sl36 : Array (Option Value)} {oc36 kV36 dc36 pm36 cd36 ct36 : Value}
    {f37 : Addr} {od37 an37 : Option Addr} {sl37 : Array (Option Value)} {oc37 kV37 dc37 pm37 cd37 ct37 : Value}
    {f38 : Addr} {od38 an38 : Option Addr} {sl38 : Array (Option Value)} {oc38 kV38 dc38 pm38 cd38 ct38 : Value}
    {f39 : Addr} {od39 an39 : Option Addr} {sl39 : Array (Option Value)} {oc39 kV39 dc39 pm39 cd39 ct39 : Value}
    {f40 : Addr} {od40 an40 : Option Addr} {sl40 : Array (Option Value)} {oc40 kV40 dc40 pm40 cd40 ct40 : Value}
    {f41 : Addr} {od41 an41 : Option Addr} {sl41 : Array (Option Value)} {oc41 kV41 dc41 pm41 cd41 ct41 : Value}
    {f42 : Addr} {od42 an42 : Option Addr} {sl42 : Array (Option Value)} {oc42 kV42 dc42 pm42 cd42 ct42 : Value}
    {f43 : Addr} {od43 an43 : Option Addr} {sl43 : Array (Option Value)} {oc43 kV43 dc43 pm43 cd43 ct43 : Value}
    {f44 : Addr} {od44 an44 : Option Addr} {sl44 : Array (Option Value)} {oc44 kV44 dc44 pm44 cd44 ct44 : Value}
    {f45 : Addr} {od45 an45 : Option Addr} {sl45 : Array (Option Value)} {oc45 kV45 dc45 pm45 cd45 ct45 : Value}
    {t_HIGHEST : Tok}
    {t_MOST_NUMBERS : Tok}
    {t_GREATEST : Tok}
    {t_MOST_KINDS : Tok}
    {t_MOST_LETTERS : Tok}
    {t_MOST_WIRES : Tok}
    {CT : Addr}
    {CInvalidNumber NInvalidNumber fIInvalidNumber : Addr} {nmInvalidNumber qInvalidNumber : Str} {bsInvalidNumber : List Value} {snInvalidNumber : List Str} {subInvalidNumber : List Value} {abInvalidNumber : Bool} {colInvalidNumber : Option Bool} {ddInvalidNumber : Option Addr} {m0InvalidNumber m1InvalidNumber m2InvalidNumber m3InvalidNumber m5InvalidNumber : Option Value}
    {odInvalidNumber anInvalidNumber : Option Addr} {slInvalidNumber : Array (Option Value)} {ocInvalidNumber kVInvalidNumber dcInvalidNumber pmInvalidNumber cdInvalidNumber ctInvalidNumber : Value}
    {CInvalidMany NInvalidMany fIInvalidMany : Addr} {nmInvalidMany qInvalidMany : Str} {bsInvalidMany : List Value} {snInvalidMany : List Str} {subInvalidMany : List Value} {abInvalidMany : Bool} {colInvalidMany : Option Bool} {ddInvalidMany : Option Addr} {m0InvalidMany m1InvalidMany m2InvalidMany m3InvalidMany m5InvalidMany : Option Value}
    {odInvalidMany anInvalidMany : Option Addr} {slInvalidMany : Array (Option Value)} {ocInvalidMany kVInvalidMany dcInvalidMany pmInvalidMany cdInvalidMany ctInvalidMany : Value}
    {CInvalidParts NInvalidParts fIInvalidParts : Addr} {nmInvalidParts qInvalidParts : Str} {bsInvalidParts : List Value} {snInvalidParts : List Str} {subInvalidParts : List Value} {abInvalidParts : Bool} {colInvalidParts : Option Bool} {ddInvalidParts : Option Addr} {m0InvalidParts m1InvalidParts m2InvalidParts m3InvalidParts m5InvalidParts : Option Value}
    {odInvalidParts anInvalidParts : Option Addr} {slInvalidParts : Array (Option Value)} {ocInvalidParts kVInvalidParts dcInvalidParts pmInvalidParts cdInvalidParts ctInvalidParts : Value}
    {CInvalidRest NInvalidRest fIInvalidRest : Addr} {nmInvalidRest qInvalidRest : Str} {bsInvalidRest : List Value} {snInvalidRest : List Str} {subInvalidRest : List Value} {abInvalidRest : Bool} {colInvalidRest : Option Bool} {ddInvalidRest : Option Addr} {m0InvalidRest m1InvalidRest m2InvalidRest m3InvalidRest m5InvalidRest : Option Value}
    {odInvalidRest anInvalidRest : Option Addr} {slInvalidRest : Array (Option Value)} {ocInvalidRest kVInvalidRest dcInvalidRest pmInvalidRest cdInvalidRest ctInvalidRest : Value}
    {CInvalidRow NInvalidRow fIInvalidRow : Addr} {nmInvalidRow qInvalidRow : Str} {bsInvalidRow : List Value} {snInvalidRow : List Str} {subInvalidRow : List Value} {abInvalidRow : Bool} {colInvalidRow : Option Bool} {ddInvalidRow : Option Addr} {m0InvalidRow m1InvalidRow m2InvalidRow m3InvalidRow m5InvalidRow : Option Value}
    {odInvalidRow anInvalidRow : Option Addr} {slInvalidRow : Array (Option Value)} {ocInvalidRow kVInvalidRow dcInvalidRow pmInvalidRow cdInvalidRow ctInvalidRow : Value}
    {CInvalidMost NInvalidMost fIInvalidMost : Addr} {nmInvalidMost qInvalidMost : Str} {bsInvalidMost : List Value} {snInvalidMost : List Str} {subInvalidMost : List Value} {abInvalidMost : Bool} {colInvalidMost : Option Bool} {ddInvalidMost : Option Addr} {m0InvalidMost m1InvalidMost m2InvalidMost m3InvalidMost m5InvalidMost : Option Value}
    {odInvalidMost anInvalidMost : Option Addr} {slInvalidMost : Array (Option Value)} {ocInvalidMost kVInvalidMost dcInvalidMost pmInvalidMost cdInvalidMost ctInvalidMost : Value}
    {CL : Addr}
    {fM0 : Addr} {odM0 anM0 : Option Addr} {slM0 : Array (Option Value)} {ocM0 kVM0 dcM0 pmM0 cdM0 ctM0 : Value}
    (a1 : PySem.W.nsIn K mainGlobals "is_integer" = some (some (.ref f1)))
    (l1 : K.lookup f1 = some ⟨oc1, od1, .func (PySem.W.fnOf "is_integer" "is_integer" (defArgs s_is_integer) (defBody s_is_integer) (defScope s_is_integer) .none kV1 dc1 pm1 an1 cd1 ct1), sl1⟩)
    (c1 : PySem.W.codeIn K cd1 "is_integer" = true)
    (k1 : PySem.W.keepIn K (.ref f1) = true)
    (a2 : PySem.W.nsIn K mainGlobals "is_between" = some (some (.ref f2)))
    (l2 : K.lookup f2 = some ⟨oc2, od2, .func (PySem.W.fnOf "is_between" "is_between" (defArgs s_is_between) (defBody s_is_between) (defScope s_is_between) .none kV2 dc2 pm2 an2 cd2 ct2), sl2⟩)
    (c2 : PySem.W.codeIn K cd2 "is_between" = true)
    (k2 : PySem.W.keepIn K (.ref f2) = true)
    (a3 : PySem.W.nsIn K mainGlobals "is_from" = some (some (.ref f3)))
    (l3 : K.lookup f3 = some ⟨oc3, od3, .func (PySem.W.fnOf "is_from" "is_from" (defArgs s_is_from) (defBody s_is_from) (defScope s_is_from) .none kV3 dc3 pm3 an3 cd3 ct3), sl3⟩)
    (c3 : PySem.W.codeIn K cd3 "is_from" = true)
    (k3 : PySem.W.keepIn K (.ref f3) = true)
    (a4 : PySem.W.nsIn K mainGlobals "is_list" = some (some (.ref f4)))
    (l4 : K.lookup f4 = some ⟨oc4, od4, .func (PySem.W.fnOf "is_list" "is_list" (defArgs s_is_list) (defBody s_is_list) (defScope s_is_list) .none kV4 dc4 pm4 an4 cd4 ct4), sl4⟩)
    (c4 : PySem.W.codeIn K cd4 "is_list" = true)
    (k4 : PySem.W.keepIn K (.ref f4) = true)
    (a5 : PySem.W.nsIn K mainGlobals "are_from" = some (some (.ref f5)))
    (l5 : K.lookup f5 = some ⟨oc5, od5, .func (PySem.W.fnOf "are_from" "are_from" (defArgs s_are_from) (defBody s_are_from) (defScope s_are_from) .none kV5 dc5 pm5 an5 cd5 ct5), sl5⟩)
    (c5 : PySem.W.codeIn K cd5 "are_from" = true)
    (k5 : PySem.W.keepIn K (.ref f5) = true)
    (a6 : PySem.W.nsIn K mainGlobals "are_between" = some (some (.ref f6)))
    (l6 : K.lookup f6 = some ⟨oc6, od6, .func (PySem.W.fnOf "are_between" "are_between" (defArgs s_are_between) (defBody s_are_between) (defScope s_are_between) .none kV6 dc6 pm6 an6 cd6 ct6), sl6⟩)
    (c6 : PySem.W.codeIn K cd6 "are_between" = true)
    (k6 : PySem.W.keepIn K (.ref f6) = true)
    (a7 : PySem.W.nsIn K mainGlobals "is_spec" = some (some (.ref f7)))
    (l7 : K.lookup f7 = some ⟨oc7, od7, .func (PySem.W.fnOf "is_spec" "is_spec" (defArgs s_is_spec) (defBody s_is_spec) (defScope s_is_spec) .none kV7 dc7 pm7 an7 cd7 ct7), sl7⟩)
    (c7 : PySem.W.codeIn K cd7 "is_spec" = true)
    (k7 : PySem.W.keepIn K (.ref f7) = true)
    (a8 : PySem.W.nsIn K mainGlobals "arrangements" = some (some (.ref f8)))
    (l8 : K.lookup f8 = some ⟨oc8, od8, .func (PySem.W.fnOf "arrangements" "arrangements" (defArgs s_arrangements) (defBody s_arrangements) (defScope s_arrangements) .none kV8 dc8 pm8 an8 cd8 ct8), sl8⟩)
    (c8 : PySem.W.codeIn K cd8 "arrangements" = true)
    (k8 : PySem.W.keepIn K (.ref f8) = true)
    (a9 : PySem.W.nsIn K mainGlobals "even_parts" = some (some (.ref f9)))
    (l9 : K.lookup f9 = some ⟨oc9, od9, .func (PySem.W.fnOf "even_parts" "even_parts" (defArgs s_even_parts) (defBody s_even_parts) (defScope s_even_parts) .none kV9 dc9 pm9 an9 cd9 ct9), sl9⟩)
    (c9 : PySem.W.codeIn K cd9 "even_parts" = true)
    (k9 : PySem.W.keepIn K (.ref f9) = true)
    (a10 : PySem.W.nsIn K mainGlobals "most_arranged" = some (some (.ref f10)))
    (l10 : K.lookup f10 = some ⟨oc10, od10, .func (PySem.W.fnOf "most_arranged" "most_arranged" (defArgs s_most_arranged) (defBody s_most_arranged) (defScope s_most_arranged) .none kV10 dc10 pm10 an10 cd10 ct10), sl10⟩)
    (c10 : PySem.W.codeIn K cd10 "most_arranged" = true)
    (k10 : PySem.W.keepIn K (.ref f10) = true)
    (a11 : PySem.W.nsIn K mainGlobals "_check_number" = some (some (.ref f11)))
    (l11 : K.lookup f11 = some ⟨oc11, od11, .func (PySem.W.fnOf "_check_number" "_check_number" (defArgs s_check_number) (defBody s_check_number) (defScope s_check_number) .none kV11 dc11 pm11 an11 cd11 ct11), sl11⟩)
    (c11 : PySem.W.codeIn K cd11 "_check_number" = true)
    (k11 : PySem.W.keepIn K (.ref f11) = true)
    (a12 : PySem.W.nsIn K mainGlobals "_check_many" = some (some (.ref f12)))
    (l12 : K.lookup f12 = some ⟨oc12, od12, .func (PySem.W.fnOf "_check_many" "_check_many" (defArgs s_check_many) (defBody s_check_many) (defScope s_check_many) .none kV12 dc12 pm12 an12 cd12 ct12), sl12⟩)
    (c12 : PySem.W.codeIn K cd12 "_check_many" = true)
    (k12 : PySem.W.keepIn K (.ref f12) = true)
    (a13 : PySem.W.nsIn K mainGlobals "is_row" = some (some (.ref f13)))
    (l13 : K.lookup f13 = some ⟨oc13, od13, .func (PySem.W.fnOf "is_row" "is_row" (defArgs s_is_row) (defBody s_is_row) (defScope s_is_row) .none kV13 dc13 pm13 an13 cd13 ct13), sl13⟩)
    (c13 : PySem.W.codeIn K cd13 "is_row" = true)
    (k13 : PySem.W.keepIn K (.ref f13) = true)
    (a14 : PySem.W.nsIn K mainGlobals "stairs_by" = some (some (.ref f14)))
    (l14 : K.lookup f14 = some ⟨oc14, od14, .func (PySem.W.fnOf "stairs_by" "stairs_by" (defArgs s_stairs_by) (defBody s_stairs_by) (defScope s_stairs_by) .none kV14 dc14 pm14 an14 cd14 ct14), sl14⟩)
    (c14 : PySem.W.codeIn K cd14 "stairs_by" = true)
    (k14 : PySem.W.keepIn K (.ref f14) = true)
    (a15 : PySem.W.nsIn K mainGlobals "_stair" = some (some (.ref f15)))
    (l15 : K.lookup f15 = some ⟨oc15, od15, .func (PySem.W.fnOf "_stair" "_stair" (defArgs s_stair) (defBody s_stair) (defScope s_stair) .none kV15 dc15 pm15 an15 cd15 ct15), sl15⟩)
    (c15 : PySem.W.codeIn K cd15 "_stair" = true)
    (k15 : PySem.W.keepIn K (.ref f15) = true)
    (a16 : PySem.W.nsIn K mainGlobals "_least" = some (some (.ref f16)))
    (l16 : K.lookup f16 = some ⟨oc16, od16, .func (PySem.W.fnOf "_least" "_least" (defArgs s_least) (defBody s_least) (defScope s_least) .none kV16 dc16 pm16 an16 cd16 ct16), sl16⟩)
    (c16 : PySem.W.codeIn K cd16 "_least" = true)
    (k16 : PySem.W.keepIn K (.ref f16) = true)
    (a17 : PySem.W.nsIn K mainGlobals "_need" = some (some (.ref f17)))
    (l17 : K.lookup f17 = some ⟨oc17, od17, .func (PySem.W.fnOf "_need" "_need" (defArgs s_need) (defBody s_need) (defScope s_need) .none kV17 dc17 pm17 an17 cd17 ct17), sl17⟩)
    (c17 : PySem.W.codeIn K cd17 "_need" = true)
    (k17 : PySem.W.keepIn K (.ref f17) = true)
    (a18 : PySem.W.nsIn K mainGlobals "_fewest_answers" = some (some (.ref f18)))
    (l18 : K.lookup f18 = some ⟨oc18, od18, .func (PySem.W.fnOf "_fewest_answers" "_fewest_answers" (defArgs s_fewest_answers) (defBody s_fewest_answers) (defScope s_fewest_answers) .none kV18 dc18 pm18 an18 cd18 ct18), sl18⟩)
    (c18 : PySem.W.codeIn K cd18 "_fewest_answers" = true)
    (k18 : PySem.W.keepIn K (.ref f18) = true)
    (a19 : PySem.W.nsIn K mainGlobals "told_by_kinds" = some (some (.ref f19)))
    (l19 : K.lookup f19 = some ⟨oc19, od19, .func (PySem.W.fnOf "told_by_kinds" "told_by_kinds" (defArgs s_told_by_kinds) (defBody s_told_by_kinds) (defScope s_told_by_kinds) .none kV19 dc19 pm19 an19 cd19 ct19), sl19⟩)
    (c19 : PySem.W.codeIn K cd19 "told_by_kinds" = true)
    (k19 : PySem.W.keepIn K (.ref f19) = true)
    (a20 : PySem.W.nsIn K mainGlobals "_told_by" = some (some (.ref f20)))
    (l20 : K.lookup f20 = some ⟨oc20, od20, .func (PySem.W.fnOf "_told_by" "_told_by" (defArgs s_told_by) (defBody s_told_by) (defScope s_told_by) .none kV20 dc20 pm20 an20 cd20 ct20), sl20⟩)
    (c20 : PySem.W.codeIn K cd20 "_told_by" = true)
    (k20 : PySem.W.keepIn K (.ref f20) = true)
    (a21 : PySem.W.nsIn K mainGlobals "_check_row" = some (some (.ref f21)))
    (l21 : K.lookup f21 = some ⟨oc21, od21, .func (PySem.W.fnOf "_check_row" "_check_row" (defArgs s_check_row) (defBody s_check_row) (defScope s_check_row) .none kV21 dc21 pm21 an21 cd21 ct21), sl21⟩)
    (c21 : PySem.W.codeIn K cd21 "_check_row" = true)
    (k21 : PySem.W.keepIn K (.ref f21) = true)
    (a22 : PySem.W.nsIn K mainGlobals "_check_stairs" = some (some (.ref f22)))
    (l22 : K.lookup f22 = some ⟨oc22, od22, .func (PySem.W.fnOf "_check_stairs" "_check_stairs" (defArgs s_check_stairs) (defBody s_check_stairs) (defScope s_check_stairs) .none kV22 dc22 pm22 an22 cd22 ct22), sl22⟩)
    (c22 : PySem.W.codeIn K cd22 "_check_stairs" = true)
    (k22 : PySem.W.keepIn K (.ref f22) = true)
    (a23 : PySem.W.nsIn K mainGlobals "stairs" = some (some (.ref f23)))
    (l23 : K.lookup f23 = some ⟨oc23, od23, .func (PySem.W.fnOf "stairs" "stairs" (defArgs s_stairs) (defBody s_stairs) (defScope s_stairs) .none kV23 dc23 pm23 an23 cd23 ct23), sl23⟩)
    (c23 : PySem.W.codeIn K cd23 "stairs" = true)
    (k23 : PySem.W.keepIn K (.ref f23) = true)
    (a24 : PySem.W.nsIn K mainGlobals "stairs_hold" = some (some (.ref f24)))
    (l24 : K.lookup f24 = some ⟨oc24, od24, .func (PySem.W.fnOf "stairs_hold" "stairs_hold" (defArgs s_stairs_hold) (defBody s_stairs_hold) (defScope s_stairs_hold) .none kV24 dc24 pm24 an24 cd24 ct24), sl24⟩)
    (c24 : PySem.W.codeIn K cd24 "stairs_hold" = true)
    (k24 : PySem.W.keepIn K (.ref f24) = true)
    (a25 : PySem.W.nsIn K mainGlobals "_is_stair" = some (some (.ref f25)))
    (l25 : K.lookup f25 = some ⟨oc25, od25, .func (PySem.W.fnOf "_is_stair" "_is_stair" (defArgs s_is_stair) (defBody s_is_stair) (defScope s_is_stair) .none kV25 dc25 pm25 an25 cd25 ct25), sl25⟩)
    (c25 : PySem.W.codeIn K cd25 "_is_stair" = true)
    (k25 : PySem.W.keepIn K (.ref f25) = true)
    (a26 : PySem.W.nsIn K mainGlobals "_law_cell" = some (some (.ref f26)))
    (l26 : K.lookup f26 = some ⟨oc26, od26, .func (PySem.W.fnOf "_law_cell" "_law_cell" (defArgs s_law_cell) (defBody s_law_cell) (defScope s_law_cell) .none kV26 dc26 pm26 an26 cd26 ct26), sl26⟩)
    (c26 : PySem.W.codeIn K cd26 "_law_cell" = true)
    (k26 : PySem.W.keepIn K (.ref f26) = true)
    (a27 : PySem.W.nsIn K mainGlobals "_law_box" = some (some (.ref f27)))
    (l27 : K.lookup f27 = some ⟨oc27, od27, .func (PySem.W.fnOf "_law_box" "_law_box" (defArgs s_law_box) (defBody s_law_box) (defScope s_law_box) .none kV27 dc27 pm27 an27 cd27 ct27), sl27⟩)
    (c27 : PySem.W.codeIn K cd27 "_law_box" = true)
    (k27 : PySem.W.keepIn K (.ref f27) = true)
    (a28 : PySem.W.nsIn K mainGlobals "_law_take" = some (some (.ref f28)))
    (l28 : K.lookup f28 = some ⟨oc28, od28, .func (PySem.W.fnOf "_law_take" "_law_take" (defArgs s_law_take) (defBody s_law_take) (defScope s_law_take) .none kV28 dc28 pm28 an28 cd28 ct28), sl28⟩)
    (c28 : PySem.W.codeIn K cd28 "_law_take" = true)
    (k28 : PySem.W.keepIn K (.ref f28) = true)
    (a29 : PySem.W.nsIn K mainGlobals "_law_same" = some (some (.ref f29)))
    (l29 : K.lookup f29 = some ⟨oc29, od29, .func (PySem.W.fnOf "_law_same" "_law_same" (defArgs s_law_same) (defBody s_law_same) (defScope s_law_same) .none kV29 dc29 pm29 an29 cd29 ct29), sl29⟩)
    (c29 : PySem.W.codeIn K cd29 "_law_same" = true)
    (k29 : PySem.W.keepIn K (.ref f29) = true)
    (a30 : PySem.W.nsIn K mainGlobals "_law_arranged" = some (some (.ref f30)))
    (l30 : K.lookup f30 = some ⟨oc30, od30, .func (PySem.W.fnOf "_law_arranged" "_law_arranged" (defArgs s_law_arranged) (defBody s_law_arranged) (defScope s_law_arranged) .none kV30 dc30 pm30 an30 cd30 ct30), sl30⟩)
    (c30 : PySem.W.codeIn K cd30 "_law_arranged" = true)
    (k30 : PySem.W.keepIn K (.ref f30) = true)
    (a31 : PySem.W.nsIn K mainGlobals "_law_best" = some (some (.ref f31)))
    (l31 : K.lookup f31 = some ⟨oc31, od31, .func (PySem.W.fnOf "_law_best" "_law_best" (defArgs s_law_best) (defBody s_law_best) (defScope s_law_best) .none kV31 dc31 pm31 an31 cd31 ct31), sl31⟩)
    (c31 : PySem.W.codeIn K cd31 "_law_best" = true)
    (k31 : PySem.W.keepIn K (.ref f31) = true)
    (a32 : PySem.W.nsIn K mainGlobals "_law_bests" = some (some (.ref f32)))
    (l32 : K.lookup f32 = some ⟨oc32, od32, .func (PySem.W.fnOf "_law_bests" "_law_bests" (defArgs s_law_bests) (defBody s_law_bests) (defScope s_law_bests) .none kV32 dc32 pm32 an32 cd32 ct32), sl32⟩)
    (c32 : PySem.W.codeIn K cd32 "_law_bests" = true)
    (k32 : PySem.W.keepIn K (.ref f32) = true)
    (a33 : PySem.W.nsIn K mainGlobals "_law_lefts" = some (some (.ref f33)))
    (l33 : K.lookup f33 = some ⟨oc33, od33, .func (PySem.W.fnOf "_law_lefts" "_law_lefts" (defArgs s_law_lefts) (defBody s_law_lefts) (defScope s_law_lefts) .none kV33 dc33 pm33 an33 cd33 ct33), sl33⟩)
    (c33 : PySem.W.codeIn K cd33 "_law_lefts" = true)
    (k33 : PySem.W.keepIn K (.ref f33) = true)
    (a34 : PySem.W.nsIn K mainGlobals "_law_tables" = some (some (.ref f34)))
    (l34 : K.lookup f34 = some ⟨oc34, od34, .func (PySem.W.fnOf "_law_tables" "_law_tables" (defArgs s_law_tables) (defBody s_law_tables) (defScope s_law_tables) .none kV34 dc34 pm34 an34 cd34 ct34), sl34⟩)
    (c34 : PySem.W.codeIn K cd34 "_law_tables" = true)
    (k34 : PySem.W.keepIn K (.ref f34) = true)
    (a35 : PySem.W.nsIn K mainGlobals "_law_due" = some (some (.ref f35)))
    (l35 : K.lookup f35 = some ⟨oc35, od35, .func (PySem.W.fnOf "_law_due" "_law_due" (defArgs s_law_due) (defBody s_law_due) (defScope s_law_due) .none kV35 dc35 pm35 an35 cd35 ct35), sl35⟩)
    (c35 : PySem.W.codeIn K cd35 "_law_due" = true)
    (k35 : PySem.W.keepIn K (.ref f35) = true)
    (a36 : PySem.W.nsIn K mainGlobals "_law_equal" = some (some (.ref f36)))
    (l36 : K.lookup f36 = some ⟨oc36, od36, .func (PySem.W.fnOf "_law_equal" "_law_equal" (defArgs s_law_equal) (defBody s_law_equal) (defScope s_law_equal) .none kV36 dc36 pm36 an36 cd36 ct36), sl36⟩)
    (c36 : PySem.W.codeIn K cd36 "_law_equal" = true)
    (k36 : PySem.W.keepIn K (.ref f36) = true)
    (a37 : PySem.W.nsIn K mainGlobals "_law_row" = some (some (.ref f37)))
    (l37 : K.lookup f37 = some ⟨oc37, od37, .func (PySem.W.fnOf "_law_row" "_law_row" (defArgs s_law_row) (defBody s_law_row) (defScope s_law_row) .none kV37 dc37 pm37 an37 cd37 ct37), sl37⟩)
    (c37 : PySem.W.codeIn K cd37 "_law_row" = true)
    (k37 : PySem.W.keepIn K (.ref f37) = true)
    (a38 : PySem.W.nsIn K mainGlobals "_law_truths" = some (some (.ref f38)))
    (l38 : K.lookup f38 = some ⟨oc38, od38, .func (PySem.W.fnOf "_law_truths" "_law_truths" (defArgs s_law_truths) (defBody s_law_truths) (defScope s_law_truths) .none kV38 dc38 pm38 an38 cd38 ct38), sl38⟩)
    (c38 : PySem.W.codeIn K cd38 "_law_truths" = true)
    (k38 : PySem.W.keepIn K (.ref f38) = true)
    (a39 : PySem.W.nsIn K mainGlobals "_law_near" = some (some (.ref f39)))
    (l39 : K.lookup f39 = some ⟨oc39, od39, .func (PySem.W.fnOf "_law_near" "_law_near" (defArgs s_law_near) (defBody s_law_near) (defScope s_law_near) .none kV39 dc39 pm39 an39 cd39 ct39), sl39⟩)
    (c39 : PySem.W.codeIn K cd39 "_law_near" = true)
    (k39 : PySem.W.keepIn K (.ref f39) = true)
    (a40 : PySem.W.nsIn K mainGlobals "_law_told" = some (some (.ref f40)))
    (l40 : K.lookup f40 = some ⟨oc40, od40, .func (PySem.W.fnOf "_law_told" "_law_told" (defArgs s_law_told) (defBody s_law_told) (defScope s_law_told) .none kV40 dc40 pm40 an40 cd40 ct40), sl40⟩)
    (c40 : PySem.W.codeIn K cd40 "_law_told" = true)
    (k40 : PySem.W.keepIn K (.ref f40) = true)
    (a41 : PySem.W.nsIn K mainGlobals "_law_stayed" = some (some (.ref f41)))
    (l41 : K.lookup f41 = some ⟨oc41, od41, .func (PySem.W.fnOf "_law_stayed" "_law_stayed" (defArgs s_law_stayed) (defBody s_law_stayed) (defScope s_law_stayed) .none kV41 dc41 pm41 an41 cd41 ct41), sl41⟩)
    (c41 : PySem.W.codeIn K cd41 "_law_stayed" = true)
    (k41 : PySem.W.keepIn K (.ref f41) = true)
    (a42 : PySem.W.nsIn K mainGlobals "_law_copy" = some (some (.ref f42)))
    (l42 : K.lookup f42 = some ⟨oc42, od42, .func (PySem.W.fnOf "_law_copy" "_law_copy" (defArgs s_law_copy) (defBody s_law_copy) (defScope s_law_copy) .none kV42 dc42 pm42 an42 cd42 ct42), sl42⟩)
    (c42 : PySem.W.codeIn K cd42 "_law_copy" = true)
    (k42 : PySem.W.keepIn K (.ref f42) = true)
    (a43 : PySem.W.nsIn K mainGlobals "_law_held" = some (some (.ref f43)))
    (l43 : K.lookup f43 = some ⟨oc43, od43, .func (PySem.W.fnOf "_law_held" "_law_held" (defArgs s_law_held) (defBody s_law_held) (defScope s_law_held) .none kV43 dc43 pm43 an43 cd43 ct43), sl43⟩)
    (c43 : PySem.W.codeIn K cd43 "_law_held" = true)
    (k43 : PySem.W.keepIn K (.ref f43) = true)
    (a44 : PySem.W.nsIn K mainGlobals "_law_told_right" = some (some (.ref f44)))
    (l44 : K.lookup f44 = some ⟨oc44, od44, .func (PySem.W.fnOf "_law_told_right" "_law_told_right" (defArgs s_law_told_right) (defBody s_law_told_right) (defScope s_law_told_right) .none kV44 dc44 pm44 an44 cd44 ct44), sl44⟩)
    (c44 : PySem.W.codeIn K cd44 "_law_told_right" = true)
    (k44 : PySem.W.keepIn K (.ref f44) = true)
    (a45 : PySem.W.nsIn K mainGlobals "law" = some (some (.ref f45)))
    (l45 : K.lookup f45 = some ⟨oc45, od45, .func (PySem.W.fnOf "law" "law" (defArgs s_law) (defBody s_law) (defScope s_law) .none kV45 dc45 pm45 an45 cd45 ct45), sl45⟩)
    (c45 : PySem.W.codeIn K cd45 "law" = true)
    (k45 : PySem.W.keepIn K (.ref f45) = true)
    (z_int : PySem.W.nsIn K mainGlobals "int" = some none)
    (z_bool : PySem.W.nsIn K mainGlobals "bool" = some none)
    (z_str : PySem.W.nsIn K mainGlobals "str" = some none)
    (z_list : PySem.W.nsIn K mainGlobals "list" = some none)
    (z_tuple : PySem.W.nsIn K mainGlobals "tuple" = some none)
    (z_len : PySem.W.nsIn K mainGlobals "len" = some none)
    (z_sum : PySem.W.nsIn K mainGlobals "sum" = some none)
    (z_abs : PySem.W.nsIn K mainGlobals "abs" = some none)
    (z_all : PySem.W.nsIn K mainGlobals "all" = some none)
    (z_range : PySem.W.nsIn K mainGlobals "range" = some none)
    (z_isinstance : PySem.W.nsIn K mainGlobals "isinstance" = some none)
    (z_max : PySem.W.nsIn K mainGlobals "max" = some none)
    (z_min : PySem.W.nsIn K mainGlobals "min" = some none)
    (z_enumerate : PySem.W.nsIn K mainGlobals "enumerate" = some none)
    (z_dict : PySem.W.nsIn K mainGlobals "dict" = some none)
    (c_HIGHEST : PySem.W.nsIn K mainGlobals "HIGHEST" = some (some (.int 64 t_HIGHEST)))
    (c_MOST_NUMBERS : PySem.W.nsIn K mainGlobals "MOST_NUMBERS" = some (some (.int 16 t_MOST_NUMBERS)))
    (c_GREATEST : PySem.W.nsIn K mainGlobals "GREATEST" = some (some (.int 100000000000000000000000000000000000000000000000000 t_GREATEST)))
    (c_MOST_KINDS : PySem.W.nsIn K mainGlobals "MOST_KINDS" = some (some (.int 16 t_MOST_KINDS)))
    (c_MOST_LETTERS : PySem.W.nsIn K mainGlobals "MOST_LETTERS" = some (some (.int 8 t_MOST_LETTERS)))
    (c_MOST_WIRES : PySem.W.nsIn K mainGlobals "MOST_WIRES" = some (some (.int 10 t_MOST_WIRES)))
    (c_comb : PySem.W.nsIn K mainGlobals "comb" = some (some (.builtin "math.comb")))
    (aCT : PySem.W.nsIn K mainGlobals "TalkError" = some (some (.ref CT)))
    (aCInvalidNumber : PySem.W.nsIn K mainGlobals "InvalidNumber" = some (some (.ref CInvalidNumber)))
    (xLInvalidNumber : K.lookup CInvalidNumber = some (excClassObj nmInvalidNumber qInvalidNumber CInvalidNumber NInvalidNumber bsInvalidNumber [.ref CT, .type "ValueError", .type "Exception", .type "BaseException", .type "object"] true snInvalidNumber subInvalidNumber abInvalidNumber colInvalidNumber ddInvalidNumber m0InvalidNumber m1InvalidNumber m2InvalidNumber m3InvalidNumber m5InvalidNumber "ValueError.__new__"))
    (saInvalidNumber : PySem.W.findIn K (.ref CInvalidNumber) "__setattr__" = some (some (.builtin "object.__setattr__")))
    (gaInvalidNumber : PySem.W.findIn K (.ref CInvalidNumber) "__getattribute__" = some (some (.builtin "BaseException.__getattribute__")))
    (ggInvalidNumber : PySem.W.findIn K (.ref CInvalidNumber) "__getattr__" = some none)
    (nbInvalidNumber : PySem.W.findIn K (.ref CInvalidNumber) "given" = some none)
    (iCInvalidNumber : PySem.W.findIn K (.ref CInvalidNumber) "__init__" = some (some (.ref fIInvalidNumber)))
    (tIInvalidNumber : PySem.W.typeIn K (.ref fIInvalidNumber) = some (.type "function"))
    (lIInvalidNumber : K.lookup fIInvalidNumber = some ⟨ocInvalidNumber, odInvalidNumber, .func (PySem.W.fnOf "__init__" "InvalidNumber.__init__" (defArgs s_init_InvalidNumber) (defBody s_init_InvalidNumber) (defScope s_init_InvalidNumber) .none kVInvalidNumber dcInvalidNumber pmInvalidNumber anInvalidNumber cdInvalidNumber ctInvalidNumber), slInvalidNumber⟩)
    (cIInvalidNumber : PySem.W.codeIn K cdInvalidNumber "InvalidNumber.__init__" = true)
    (kIInvalidNumber : PySem.W.keepIn K (.ref fIInvalidNumber) = true)
    (kCInvalidNumber : PySem.W.keepIn K (.ref CInvalidNumber) = true)
    (eCInvalidNumber : PySem.W.subIn K (.ref CInvalidNumber) (.type "BaseException") = some true)
    (tCInvalidNumber : PySem.W.typeIn K (.ref CInvalidNumber) = some (.type "type"))
    (hCInvalidNumber : PySem.W.hasDictIn K CInvalidNumber = true)
    (iSInvalidNumber : PySem.W.isClsIn K CInvalidNumber = true)
    (aCInvalidMany : PySem.W.nsIn K mainGlobals "InvalidMany" = some (some (.ref CInvalidMany)))
    (xLInvalidMany : K.lookup CInvalidMany = some (excClassObj nmInvalidMany qInvalidMany CInvalidMany NInvalidMany bsInvalidMany [.ref CT, .type "ValueError", .type "Exception", .type "BaseException", .type "object"] true snInvalidMany subInvalidMany abInvalidMany colInvalidMany ddInvalidMany m0InvalidMany m1InvalidMany m2InvalidMany m3InvalidMany m5InvalidMany "ValueError.__new__"))
    (saInvalidMany : PySem.W.findIn K (.ref CInvalidMany) "__setattr__" = some (some (.builtin "object.__setattr__")))
    (gaInvalidMany : PySem.W.findIn K (.ref CInvalidMany) "__getattribute__" = some (some (.builtin "BaseException.__getattribute__")))
    (ggInvalidMany : PySem.W.findIn K (.ref CInvalidMany) "__getattr__" = some none)
    (nbInvalidMany : PySem.W.findIn K (.ref CInvalidMany) "given" = some none)
    (iCInvalidMany : PySem.W.findIn K (.ref CInvalidMany) "__init__" = some (some (.ref fIInvalidMany)))
    (tIInvalidMany : PySem.W.typeIn K (.ref fIInvalidMany) = some (.type "function"))
    (lIInvalidMany : K.lookup fIInvalidMany = some ⟨ocInvalidMany, odInvalidMany, .func (PySem.W.fnOf "__init__" "InvalidMany.__init__" (defArgs s_init_InvalidMany) (defBody s_init_InvalidMany) (defScope s_init_InvalidMany) .none kVInvalidMany dcInvalidMany pmInvalidMany anInvalidMany cdInvalidMany ctInvalidMany), slInvalidMany⟩)
    (cIInvalidMany : PySem.W.codeIn K cdInvalidMany "InvalidMany.__init__" = true)
    (kIInvalidMany : PySem.W.keepIn K (.ref fIInvalidMany) = true)
    (kCInvalidMany : PySem.W.keepIn K (.ref CInvalidMany) = true)
    (eCInvalidMany : PySem.W.subIn K (.ref CInvalidMany) (.type "BaseException") = some true)
    (tCInvalidMany : PySem.W.typeIn K (.ref CInvalidMany) = some (.type "type"))
    (hCInvalidMany : PySem.W.hasDictIn K CInvalidMany = true)
    (iSInvalidMany : PySem.W.isClsIn K CInvalidMany = true)
    (aCInvalidParts : PySem.W.nsIn K mainGlobals "InvalidParts" = some (some (.ref CInvalidParts)))
    (xLInvalidParts : K.lookup CInvalidParts = some (excClassObj nmInvalidParts qInvalidParts CInvalidParts NInvalidParts bsInvalidParts [.ref CT, .type "ValueError", .type "Exception", .type "BaseException", .type "object"] true snInvalidParts subInvalidParts abInvalidParts colInvalidParts ddInvalidParts m0InvalidParts m1InvalidParts m2InvalidParts m3InvalidParts m5InvalidParts "ValueError.__new__"))
    (saInvalidParts : PySem.W.findIn K (.ref CInvalidParts) "__setattr__" = some (some (.builtin "object.__setattr__")))
    (gaInvalidParts : PySem.W.findIn K (.ref CInvalidParts) "__getattribute__" = some (some (.builtin "BaseException.__getattribute__")))
    (ggInvalidParts : PySem.W.findIn K (.ref CInvalidParts) "__getattr__" = some none)
    (nbInvalidParts : PySem.W.findIn K (.ref CInvalidParts) "given" = some none)
    (iCInvalidParts : PySem.W.findIn K (.ref CInvalidParts) "__init__" = some (some (.ref fIInvalidParts)))
    (tIInvalidParts : PySem.W.typeIn K (.ref fIInvalidParts) = some (.type "function"))
    (lIInvalidParts : K.lookup fIInvalidParts = some ⟨ocInvalidParts, odInvalidParts, .func (PySem.W.fnOf "__init__" "InvalidParts.__init__" (defArgs s_init_InvalidParts) (defBody s_init_InvalidParts) (defScope s_init_InvalidParts) .none kVInvalidParts dcInvalidParts pmInvalidParts anInvalidParts cdInvalidParts ctInvalidParts), slInvalidParts⟩)
    (cIInvalidParts : PySem.W.codeIn K cdInvalidParts "InvalidParts.__init__" = true)
    (kIInvalidParts : PySem.W.keepIn K (.ref fIInvalidParts) = true)
    (kCInvalidParts : PySem.W.keepIn K (.ref CInvalidParts) = true)
    (eCInvalidParts : PySem.W.subIn K (.ref CInvalidParts) (.type "BaseException") = some true)
    (tCInvalidParts : PySem.W.typeIn K (.ref CInvalidParts) = some (.type "type"))
    (hCInvalidParts : PySem.W.hasDictIn K CInvalidParts = true)
    (iSInvalidParts : PySem.W.isClsIn K CInvalidParts = true)
    (aCInvalidRest : PySem.W.nsIn K mainGlobals "InvalidRest" = some (some (.ref CInvalidRest)))
    (xLInvalidRest : K.lookup CInvalidRest = some (excClassObj nmInvalidRest qInvalidRest CInvalidRest NInvalidRest bsInvalidRest [.ref CT, .type "ValueError", .type "Exception", .type "BaseException", .type "object"] true snInvalidRest subInvalidRest abInvalidRest colInvalidRest ddInvalidRest m0InvalidRest m1InvalidRest m2InvalidRest m3InvalidRest m5InvalidRest "ValueError.__new__"))
    (saInvalidRest : PySem.W.findIn K (.ref CInvalidRest) "__setattr__" = some (some (.builtin "object.__setattr__")))
    (gaInvalidRest : PySem.W.findIn K (.ref CInvalidRest) "__getattribute__" = some (some (.builtin "BaseException.__getattribute__")))
    (ggInvalidRest : PySem.W.findIn K (.ref CInvalidRest) "__getattr__" = some none)
    (nbInvalidRest : PySem.W.findIn K (.ref CInvalidRest) "given" = some none)
    (iCInvalidRest : PySem.W.findIn K (.ref CInvalidRest) "__init__" = some (some (.ref fIInvalidRest)))
    (tIInvalidRest : PySem.W.typeIn K (.ref fIInvalidRest) = some (.type "function"))
    (lIInvalidRest : K.lookup fIInvalidRest = some ⟨ocInvalidRest, odInvalidRest, .func (PySem.W.fnOf "__init__" "InvalidRest.__init__" (defArgs s_init_InvalidRest) (defBody s_init_InvalidRest) (defScope s_init_InvalidRest) .none kVInvalidRest dcInvalidRest pmInvalidRest anInvalidRest cdInvalidRest ctInvalidRest), slInvalidRest⟩)
    (cIInvalidRest : PySem.W.codeIn K cdInvalidRest "InvalidRest.__init__" = true)
    (kIInvalidRest : PySem.W.keepIn K (.ref fIInvalidRest) = true)
    (kCInvalidRest : PySem.W.keepIn K (.ref CInvalidRest) = true)
    (eCInvalidRest : PySem.W.subIn K (.ref CInvalidRest) (.type "BaseException") = some true)
    (tCInvalidRest : PySem.W.typeIn K (.ref CInvalidRest) = some (.type "type"))
    (hCInvalidRest : PySem.W.hasDictIn K CInvalidRest = true)
    (iSInvalidRest : PySem.W.isClsIn K CInvalidRest = true)
    (aCInvalidRow : PySem.W.nsIn K mainGlobals "InvalidRow" = some (some (.ref CInvalidRow)))
    (xLInvalidRow : K.lookup CInvalidRow = some (excClassObj nmInvalidRow qInvalidRow CInvalidRow NInvalidRow bsInvalidRow [.ref CT, .type "ValueError", .type "Exception", .type "BaseException", .type "object"] true snInvalidRow subInvalidRow abInvalidRow colInvalidRow ddInvalidRow m0InvalidRow m1InvalidRow m2InvalidRow m3InvalidRow m5InvalidRow "ValueError.__new__"))
    (saInvalidRow : PySem.W.findIn K (.ref CInvalidRow) "__setattr__" = some (some (.builtin "object.__setattr__")))
    (gaInvalidRow : PySem.W.findIn K (.ref CInvalidRow) "__getattribute__" = some (some (.builtin "BaseException.__getattribute__")))
    (ggInvalidRow : PySem.W.findIn K (.ref CInvalidRow) "__getattr__" = some none)
    (nbInvalidRow : PySem.W.findIn K (.ref CInvalidRow) "given" = some none)
    (iCInvalidRow : PySem.W.findIn K (.ref CInvalidRow) "__init__" = some (some (.ref fIInvalidRow)))
    (tIInvalidRow : PySem.W.typeIn K (.ref fIInvalidRow) = some (.type "function"))
    (lIInvalidRow : K.lookup fIInvalidRow = some ⟨ocInvalidRow, odInvalidRow, .func (PySem.W.fnOf "__init__" "InvalidRow.__init__" (defArgs s_init_InvalidRow) (defBody s_init_InvalidRow) (defScope s_init_InvalidRow) .none kVInvalidRow dcInvalidRow pmInvalidRow anInvalidRow cdInvalidRow ctInvalidRow), slInvalidRow⟩)
    (cIInvalidRow : PySem.W.codeIn K cdInvalidRow "InvalidRow.__init__" = true)
    (kIInvalidRow : PySem.W.keepIn K (.ref fIInvalidRow) = true)
    (kCInvalidRow : PySem.W.keepIn K (.ref CInvalidRow) = true)
    (eCInvalidRow : PySem.W.subIn K (.ref CInvalidRow) (.type "BaseException") = some true)
    (tCInvalidRow : PySem.W.typeIn K (.ref CInvalidRow) = some (.type "type"))
    (hCInvalidRow : PySem.W.hasDictIn K CInvalidRow = true)
    (iSInvalidRow : PySem.W.isClsIn K CInvalidRow = true)
    (aCInvalidMost : PySem.W.nsIn K mainGlobals "InvalidMost" = some (some (.ref CInvalidMost)))
    (xLInvalidMost : K.lookup CInvalidMost = some (excClassObj nmInvalidMost qInvalidMost CInvalidMost NInvalidMost bsInvalidMost [.ref CT, .type "ValueError", .type "Exception", .type "BaseException", .type "object"] true snInvalidMost subInvalidMost abInvalidMost colInvalidMost ddInvalidMost m0InvalidMost m1InvalidMost m2InvalidMost m3InvalidMost m5InvalidMost "ValueError.__new__"))
    (saInvalidMost : PySem.W.findIn K (.ref CInvalidMost) "__setattr__" = some (some (.builtin "object.__setattr__")))
    (gaInvalidMost : PySem.W.findIn K (.ref CInvalidMost) "__getattribute__" = some (some (.builtin "BaseException.__getattribute__")))
    (ggInvalidMost : PySem.W.findIn K (.ref CInvalidMost) "__getattr__" = some none)
    (nbInvalidMost : PySem.W.findIn K (.ref CInvalidMost) "given" = some none)
    (iCInvalidMost : PySem.W.findIn K (.ref CInvalidMost) "__init__" = some (some (.ref fIInvalidMost)))
    (tIInvalidMost : PySem.W.typeIn K (.ref fIInvalidMost) = some (.type "function"))
    (lIInvalidMost : K.lookup fIInvalidMost = some ⟨ocInvalidMost, odInvalidMost, .func (PySem.W.fnOf "__init__" "InvalidMost.__init__" (defArgs s_init_InvalidMost) (defBody s_init_InvalidMost) (defScope s_init_InvalidMost) .none kVInvalidMost dcInvalidMost pmInvalidMost anInvalidMost cdInvalidMost ctInvalidMost), slInvalidMost⟩)
    (cIInvalidMost : PySem.W.codeIn K cdInvalidMost "InvalidMost.__init__" = true)
    (kIInvalidMost : PySem.W.keepIn K (.ref fIInvalidMost) = true)
    (kCInvalidMost : PySem.W.keepIn K (.ref CInvalidMost) = true)
    (eCInvalidMost : PySem.W.subIn K (.ref CInvalidMost) (.type "BaseException") = some true)
    (tCInvalidMost : PySem.W.typeIn K (.ref CInvalidMost) = some (.type "type"))
    (hCInvalidMost : PySem.W.hasDictIn K CInvalidMost = true)
    (iSInvalidMost : PySem.W.isClsIn K CInvalidMost = true)
    (aCL : PySem.W.nsIn K mainGlobals "Line" = some (some (.ref CL)))
    (pgL : PySem.W.plainGet K CL Str.empty = true)
    (hdL : PySem.W.hasDictIn K CL = true)
    (poL : PySem.W.plainOver K CL = true)
    (saL : PySem.W.findIn K (.ref CL) "__setattr__" = some (some (.builtin "object.__setattr__")))
    (mkL : PySem.W.makesIn K CL = true)
    (kcL : PySem.W.keepIn K (.ref CL) = true)
    (haL : PySem.W.findIn K (.ref CL) "__class__" = some (some (.builtin "object.__class__")))
    (hnL : PySem.W.specialIn K (.builtin "object.__class__") "__get__" = some (some (.builtin "getset_descriptor.__get__")))
    (htL : PySem.W.takesIn K (.builtin "object.__class__") = some true)
    (hmL : PySem.W.mroIn K CL (.type "object") = some true)
    (isL : PySem.W.isClsIn K CL = true)
    (tyL : PySem.W.typeIn K (.ref CL) = some (.type "type"))
    (no_list : PySem.W.subIn K (.ref CL) (.type "list") = some false)
    (no_tuple : PySem.W.subIn K (.ref CL) (.type "tuple") = some false)
    (no_int : PySem.W.subIn K (.ref CL) (.type "int") = some false)
    (no_bool : PySem.W.subIn K (.ref CL) (.type "bool") = some false)
    (no_str : PySem.W.subIn K (.ref CL) (.type "str") = some false)
    (no_dict : PySem.W.subIn K (.ref CL) (.type "dict") = some false)
    (su_NoneType : PySem.W.subIn K (.type "NoneType") (.ref CL) = some false)
    (su_bool : PySem.W.subIn K (.type "bool") (.ref CL) = some false)
    (su_int : PySem.W.subIn K (.type "int") (.ref CL) = some false)
    (su_str : PySem.W.subIn K (.type "str") (.ref CL) = some false)
    (su_list : PySem.W.subIn K (.type "list") (.ref CL) = some false)
    (su_tuple : PySem.W.subIn K (.type "tuple") (.ref CL) = some false)
    (su_dict : PySem.W.subIn K (.type "dict") (.ref CL) = some false)
    (aM0 : PySem.W.findIn K (.ref CL) "__init__" = some (some (.ref fM0)))
    (iM0 : PySem.W.isFn K (.ref fM0) = true)
    (lM0 : K.lookup fM0 = some ⟨ocM0, odM0, .func (PySem.W.fnOf "__init__" "Line.__init__" (defArgs s_Line_init) (defBody s_Line_init) (defScope s_Line_init) .none kVM0 dcM0 pmM0 anM0 cdM0 ctM0), slM0⟩)
    (cM0 : PySem.W.codeIn K cdM0 "Line.__init__" = true)
    (kM0 : PySem.W.keepIn K (.ref fM0) = true)
    (n_spec : PySem.W.findIn K (.ref CL) "spec" = some none)
    (n_sent : PySem.W.findIn K (.ref CL) "_sent_by" = some none)
    (n_came : PySem.W.findIn K (.ref CL) "_came_to" = some none) :
    ∃ fd : FuncData, (∀ (s : Shared) (v : Value), BindsTo s fd ⟨[v], []⟩ [("script", v)]) ∧ ∀ base : Heap, K.In base → base.Ns mainGlobals mg → FnOk l.prog w K mg base CX0 17 fa fd ["script"] (spLaw K) := by
  have e := hfa.symm.trans (PySem.W.mg_of X G a45)
  cases e
  let T : TK K mg := {
    is_integer := mkDef X G a1 l1 c1 k1 (fun _ _ _ _ _ _ us hl => match us, hl with | [_], _ => rfl)
    is_between := mkDef X G a2 l2 c2 k2 (fun _ _ _ _ _ _ us hl => match us, hl with | [_, _, _], _ => rfl)
    is_from := mkDef X G a3 l3 c3 k3 (fun _ _ _ _ _ _ us hl => match us, hl with | [_, _], _ => rfl)
    is_list := mkDef X G a4 l4 c4 k4 (fun _ _ _ _ _ _ us hl => match us, hl with | [_], _ => rfl)
    are_from := mkDef X G a5 l5 c5 k5 (fun _ _ _ _ _ _ us hl => match us, hl with | [_, _], _ => rfl)
    are_between := mkDef X G a6 l6 c6 k6 (fun _ _ _ _ _ _ us hl => match us, hl with | [_, _, _], _ => rfl)
    is_spec := mkDef X G a7 l7 c7 k7 (fun _ _ _ _ _ _ us hl => match us, hl with | [_], _ => rfl)
    arrangements := mkDef X G a8 l8 c8 k8 (fun _ _ _ _ _ _ us hl => match us, hl with | [_], _ => rfl)
    even_parts := mkDef X G a9 l9 c9 k9 (fun _ _ _ _ _ _ us hl => match us, hl with | [_, _], _ => rfl)
    most_arranged := mkDef X G a10 l10 c10 k10 (fun _ _ _ _ _ _ us hl => match us, hl with | [_, _, _], _ => rfl)
    check_number := mkDef X G a11 l11 c11 k11 (fun _ _ _ _ _ _ us hl => match us, hl with | [_], _ => rfl)
    check_many := mkDef X G a12 l12 c12 k12 (fun _ _ _ _ _ _ us hl => match us, hl with | [_], _ => rfl)
    is_row := mkDef X G a13 l13 c13 k13 (fun _ _ _ _ _ _ us hl => match us, hl with | [_], _ => rfl)
    stairs_by := mkDef X G a14 l14 c14 k14 (fun _ _ _ _ _ _ us hl => match us, hl with | [_, _], _ => rfl)
    stair := mkDef X G a15 l15 c15 k15 (fun _ _ _ _ _ _ us hl => match us, hl with | [_, _, _], _ => rfl)
    least := mkDef X G a16 l16 c16 k16 (fun _ _ _ _ _ _ us hl => match us, hl with | [_, _, _], _ => rfl)
    need := mkDef X G a17 l17 c17 k17 (fun _ _ _ _ _ _ us hl => match us, hl with | [_, _], _ => rfl)
    fewest_answers := mkDef X G a18 l18 c18 k18 (fun _ _ _ _ _ _ us hl => match us, hl with | [_, _], _ => rfl)
    told_by_kinds := mkDef X G a19 l19 c19 k19 (fun _ _ _ _ _ _ us hl => match us, hl with | [_], _ => rfl)
    told_by := mkDef X G a20 l20 c20 k20 (fun _ _ _ _ _ _ us hl => match us, hl with | [_, _], _ => rfl)
    check_row := mkDef X G a21 l21 c21 k21 (fun _ _ _ _ _ _ us hl => match us, hl with | [_], _ => rfl)
    check_stairs := mkDef X G a22 l22 c22 k22 (fun _ _ _ _ _ _ us hl => match us, hl with | [_, _], _ => rfl)
    stairs := mkDef X G a23 l23 c23 k23 (fun _ _ _ _ _ _ us hl => match us, hl with | [_, _], _ => rfl)
    stairs_hold := mkDef X G a24 l24 c24 k24 (fun _ _ _ _ _ _ us hl => match us, hl with | [_, _, _], _ => rfl)
    is_stair := mkDef X G a25 l25 c25 k25 (fun _ _ _ _ _ _ us hl => match us, hl with | [_], _ => rfl)
    law_cell := mkDef X G a26 l26 c26 k26 (fun _ _ _ _ _ _ us hl => match us, hl with | [_, _], _ => rfl)
    law_box := mkDef X G a27 l27 c27 k27 (fun _ _ _ _ _ _ us hl => match us, hl with | [_], _ => rfl)
    law_take := mkDef X G a28 l28 c28 k28 (fun _ _ _ _ _ _ us hl => match us, hl with | [_, _], _ => rfl)
    law_same := mkDef X G a29 l29 c29 k29 (fun _ _ _ _ _ _ us hl => match us, hl with | [_, _], _ => rfl)
    law_arranged := mkDef X G a30 l30 c30 k30 (fun _ _ _ _ _ _ us hl => match us, hl with | [_], _ => rfl)
    law_best := mkDef X G a31 l31 c31 k31 (fun _ _ _ _ _ _ us hl => match us, hl with | [_, _, _], _ => rfl)
    law_bests := mkDef X G a32 l32 c32 k32 (fun _ _ _ _ _ _ us hl => match us, hl with | [_], _ => rfl)
    law_lefts := mkDef X G a33 l33 c33 k33 (fun _ _ _ _ _ _ us hl => match us, hl with | [_, _], _ => rfl)
    law_tables := mkDef X G a34 l34 c34 k34 (fun _ _ _ _ _ _ us hl => match us, hl with | [_, _], _ => rfl)
    law_due := mkDef X G a35 l35 c35 k35 (fun _ _ _ _ _ _ us hl => match us, hl with | [_, _], _ => rfl)
    law_equal := mkDef X G a36 l36 c36 k36 (fun _ _ _ _ _ _ us hl => match us, hl with | [_, _], _ => rfl)
    law_row := mkDef X G a37 l37 c37 k37 (fun _ _ _ _ _ _ us hl => match us, hl with | [_, _, _], _ => rfl)
    law_truths := mkDef X G a38 l38 c38 k38 (fun _ _ _ _ _ _ us hl => match us, hl with | [_], _ => rfl)
    law_near := mkDef X G a39 l39 c39 k39 (fun _ _ _ _ _ _ us hl => match us, hl with | [_, _], _ => rfl)
    law_told := mkDef X G a40 l40 c40 k40 (fun _ _ _ _ _ _ us hl => match us, hl with | [_, _, _], _ => rfl)
    law_stayed := mkDef X G a41 l41 c41 k41 (fun _ _ _ _ _ _ us hl => match us, hl with | [_, _], _ => rfl)
    law_copy := mkDef X G a42 l42 c42 k42 (fun _ _ _ _ _ _ us hl => match us, hl with | [_], _ => rfl)
    law_held := mkDef X G a43 l43 c43 k43 (fun _ _ _ _ _ _ us hl => match us, hl with | [_, _, _, _], _ => rfl)
    law_told_right := mkDef X G a44 l44 c44 k44 (fun _ _ _ _ _ _ us hl => match us, hl with | [_, _, _, _, _], _ => rfl)
    law := mkDef X G a45 l45 c45 k45 (fun _ _ _ _ _ _ us hl => match us, hl with | [_], _ => rfl)
    z_int := PySem.W.mg_none_of X G z_int
    z_bool := PySem.W.mg_none_of X G z_bool
    z_str := PySem.W.mg_none_of X G z_str
    z_list := PySem.W.mg_none_of X G z_list
    z_tuple := PySem.W.mg_none_of X G z_tuple
    z_len := PySem.W.mg_none_of X G z_len
    z_sum := PySem.W.mg_none_of X G z_sum
    z_abs := PySem.W.mg_none_of X G z_abs
    z_all := PySem.W.mg_none_of X G z_all
    z_range := PySem.W.mg_none_of X G z_range
    z_isinstance := PySem.W.mg_none_of X G z_isinstance
    z_max := PySem.W.mg_none_of X G z_max
    z_min := PySem.W.mg_none_of X G z_min
    z_enumerate := PySem.W.mg_none_of X G z_enumerate
    z_dict := PySem.W.mg_none_of X G z_dict
    t_HIGHEST := t_HIGHEST
    c_HIGHEST := PySem.W.mg_of X G c_HIGHEST
    t_MOST_NUMBERS := t_MOST_NUMBERS
    c_MOST_NUMBERS := PySem.W.mg_of X G c_MOST_NUMBERS
    t_GREATEST := t_GREATEST
    c_GREATEST := PySem.W.mg_of X G c_GREATEST
    t_MOST_KINDS := t_MOST_KINDS
    c_MOST_KINDS := PySem.W.mg_of X G c_MOST_KINDS
    t_MOST_LETTERS := t_MOST_LETTERS
    c_MOST_LETTERS := PySem.W.mg_of X G c_MOST_LETTERS
    t_MOST_WIRES := t_MOST_WIRES
    c_MOST_WIRES := PySem.W.mg_of X G c_MOST_WIRES
    c_comb := PySem.W.mg_of X G c_comb
    InvalidNumber := ⟨CInvalidNumber, fIInvalidNumber, _, fun_mk (st := s_init_InvalidNumber) lIInvalidNumber cIInvalidNumber kIInvalidNumber, (fun_mk (st := s_init_InvalidNumber) lIInvalidNumber cIInvalidNumber kIInvalidNumber).binds (ps := ["self", "given"]) fun _ _ _ _ _ _ us hl => match us, hl with | [_, _], _ => rfl, ⟨⟨_, _, _, _, _, _, _, _, _, _, _, _, _, _, _, xLInvalidNumber, rfl⟩, saInvalidNumber, eCInvalidNumber, tCInvalidNumber, kCInvalidNumber⟩, iCInvalidNumber, tIInvalidNumber, PySem.W.mg_of X G aCInvalidNumber, nbInvalidNumber, ⟨gaInvalidNumber, ggInvalidNumber, eCInvalidNumber, hCInvalidNumber⟩⟩
    InvalidMany := ⟨CInvalidMany, fIInvalidMany, _, fun_mk (st := s_init_InvalidMany) lIInvalidMany cIInvalidMany kIInvalidMany, (fun_mk (st := s_init_InvalidMany) lIInvalidMany cIInvalidMany kIInvalidMany).binds (ps := ["self", "given"]) fun _ _ _ _ _ _ us hl => match us, hl with | [_, _], _ => rfl, ⟨⟨_, _, _, _, _, _, _, _, _, _, _, _, _, _, _, xLInvalidMany, rfl⟩, saInvalidMany, eCInvalidMany, tCInvalidMany, kCInvalidMany⟩, iCInvalidMany, tIInvalidMany, PySem.W.mg_of X G aCInvalidMany, nbInvalidMany, ⟨gaInvalidMany, ggInvalidMany, eCInvalidMany, hCInvalidMany⟩⟩
    InvalidParts := ⟨CInvalidParts, fIInvalidParts, _, fun_mk (st := s_init_InvalidParts) lIInvalidParts cIInvalidParts kIInvalidParts, (fun_mk (st := s_init_InvalidParts) lIInvalidParts cIInvalidParts kIInvalidParts).binds (ps := ["self", "given"]) fun _ _ _ _ _ _ us hl => match us, hl with | [_, _], _ => rfl, ⟨⟨_, _, _, _, _, _, _, _, _, _, _, _, _, _, _, xLInvalidParts, rfl⟩, saInvalidParts, eCInvalidParts, tCInvalidParts, kCInvalidParts⟩, iCInvalidParts, tIInvalidParts, PySem.W.mg_of X G aCInvalidParts, nbInvalidParts, ⟨gaInvalidParts, ggInvalidParts, eCInvalidParts, hCInvalidParts⟩⟩
    InvalidRest := ⟨CInvalidRest, fIInvalidRest, _, fun_mk (st := s_init_InvalidRest) lIInvalidRest cIInvalidRest kIInvalidRest, (fun_mk (st := s_init_InvalidRest) lIInvalidRest cIInvalidRest kIInvalidRest).binds (ps := ["self", "given"]) fun _ _ _ _ _ _ us hl => match us, hl with | [_, _], _ => rfl, ⟨⟨_, _, _, _, _, _, _, _, _, _, _, _, _, _, _, xLInvalidRest, rfl⟩, saInvalidRest, eCInvalidRest, tCInvalidRest, kCInvalidRest⟩, iCInvalidRest, tIInvalidRest, PySem.W.mg_of X G aCInvalidRest, nbInvalidRest, ⟨gaInvalidRest, ggInvalidRest, eCInvalidRest, hCInvalidRest⟩⟩
    InvalidRow := ⟨CInvalidRow, fIInvalidRow, _, fun_mk (st := s_init_InvalidRow) lIInvalidRow cIInvalidRow kIInvalidRow, (fun_mk (st := s_init_InvalidRow) lIInvalidRow cIInvalidRow kIInvalidRow).binds (ps := ["self", "given"]) fun _ _ _ _ _ _ us hl => match us, hl with | [_, _], _ => rfl, ⟨⟨_, _, _, _, _, _, _, _, _, _, _, _, _, _, _, xLInvalidRow, rfl⟩, saInvalidRow, eCInvalidRow, tCInvalidRow, kCInvalidRow⟩, iCInvalidRow, tIInvalidRow, PySem.W.mg_of X G aCInvalidRow, nbInvalidRow, ⟨gaInvalidRow, ggInvalidRow, eCInvalidRow, hCInvalidRow⟩⟩
    InvalidMost := ⟨CInvalidMost, fIInvalidMost, _, fun_mk (st := s_init_InvalidMost) lIInvalidMost cIInvalidMost kIInvalidMost, (fun_mk (st := s_init_InvalidMost) lIInvalidMost cIInvalidMost kIInvalidMost).binds (ps := ["self", "given"]) fun _ _ _ _ _ _ us hl => match us, hl with | [_, _], _ => rfl, ⟨⟨_, _, _, _, _, _, _, _, _, _, _, _, _, _, _, xLInvalidMost, rfl⟩, saInvalidMost, eCInvalidMost, tCInvalidMost, kCInvalidMost⟩, iCInvalidMost, tIInvalidMost, PySem.W.mg_of X G aCInvalidMost, nbInvalidMost, ⟨gaInvalidMost, ggInvalidMost, eCInvalidMost, hCInvalidMost⟩⟩
    kb_stairs_most_row := kb21 (fun_mk (st := s_stairs) l23 c23 k23) fun _ _ _ _ _ _ _ _ => rfl
    kb_stairs_hold_value_most_row := kb321 (fun_mk (st := s_stairs_hold) l24 c24 k24) fun _ _ _ _ _ _ _ _ _ => rfl
    C := CL
    gL := PySem.W.mg_of X G aCL
    cl := ⟨pgL, hdL, poL, saL⟩
    ca := clsAt_mk ⟨pgL, hdL, poL, saL⟩ haL hnL htL hmL isL tyL (fun t ht => by
      simp only [List.mem_cons, List.not_mem_nil, or_false] at ht
      rcases ht with rfl | rfl | rfl | rfl | rfl | rfl
      · exact no_list
      · exact no_tuple
      · exact no_int
      · exact no_bool
      · exact no_str
      · exact no_dict) (fun t ht => by
      simp only [List.mem_cons, List.not_mem_nil, or_false] at ht
      rcases ht with rfl | rfl | rfl | rfl | rfl | rfl | rfl
      · exact su_NoneType
      · exact su_bool
      · exact su_int
      · exact su_str
      · exact su_list
      · exact su_tuple
      · exact su_dict)
    m_init := ⟨fM0, _, fun_mk (st := s_Line_init) lM0 cM0 kM0, (fun_mk (st := s_Line_init) lM0 cM0 kM0).binds (ps := ["self", "spec"]) fun _ _ _ _ _ _ us hl => match us, hl with | [_, _], _ => rfl, ⟨aM0, iM0, kM0⟩⟩
    mkc := ⟨mkL, aM0, iM0, kcL⟩
    n_spec := n_spec
    n_sent := n_sent
    n_came := n_came }
  exact ⟨PySem.W.fnOf "law" "law" (defArgs s_law) (defBody s_law) (defScope s_law) .none kV45 dc45 pm45 an45 cd45 ct45, fun s v => .of_eq rfl, fun base _ _ => ok_law T⟩
theorem walk {l : PySem.W.OpenLaw} {q : Program} {loose : List Str} {XP : (Str → Option Value) → Heap → Prop} {YP : World → Heap → Prop} {d : DefRec} {K : Params → PySem.W.Frag} (hn : l.most = some 63) (hdf : d.params.defaults = [])
    (hY : ∀ (w : World) (h : Heap), YP w h → (K w.params).In h)
    (F : ∀ (w : World) (mg : Str → Option Value) (fa : Addr) (h : Heap), (K w.params).In h → h.Ns mainGlobals mg → mg d.name = some (.ref fa) →
      ∃ fd : FuncData, (∀ (s : Shared) (u : Value), BindsTo s fd ⟨[u], []⟩ [("script", u)]) ∧ ∀ base : Heap, (K w.params).In base → base.Ns mainGlobals mg → FnOk l.prog w (K w.params) mg base CX0 17 fa fd ["script"] (spLaw (K w.params))) :
    PySem.W.WalkO q loose XP YP l.row.toRowW d [] (fun f vs => PySem.call f vs) :=
  L2.walk_of (n := 63) (k := 17) (x := "script") (CX := fun _ => CX0) (sp := fun w => spLaw (K w.params)) hn (by decide) hdf ⟨rfl, by decide, by decide⟩ hY F
    (fun _ _ a ns hl _ hS => ⟨a, ns, rfl, hS, hl, fun _ => rfl⟩) fun _ _ _ _ _ z => z
end L2.U
open PySem PySem.W PyProof.Rows
set_option maxRecDepth 100000 in
set_option maxHeartbeats 0 in
theorem PySem.Challenge.cw_upforgood_k16_stairs_both_ways_holds : PySem.Challenge.rw_upforgood_k16_stairs_both_ways.Holds := by
  w_on; o_law; k_head; (case hw => w_witness2)
  k_fill
  refine L2.U.walk (l := PySem.Challenge.rw_upforgood_k16_stairs_both_ways) rfl rfl (fun w h Y => PySem.W.kIn_of Y) ?F
  case F =>
    intro w mg fa h KX G hmg
    refine' L2.U.all_mk KX G hmg ?a1 ?l1 ?c1 ?k1 ?a2 ?l2 ?c2 ?k2 ?a3 ?l3 ?c3 ?k3 ?a4 ?l4 ?c4 ?k4 ?a5 ?l5 ?c5 ?k5 ?a6 ?l6 ?c6 ?k6 ?a7 ?l7 ?c7 ?k7 ?a8 ?l8 ?c8 ?k8 ?a9 ?l9 ?c9 ?k9 ?a10 ?l10 ?c10 ?k10 ?a11 ?l11 ?c11 ?k11 ?a12 ?l12 ?c12 ?k12 ?a13 ?l13 ?c13 ?k13 ?a14 ?l14 ?c14 ?k14 ?a15 ?l15 ?c15 ?k15 ?a16 ?l16 ?c16 ?k16 ?a17 ?l17 ?c17 ?k17 ?a18 ?l18 ?c18 ?k18 ?a19 ?l19 ?c19 ?k19 ?a20 ?l20 ?c20 ?k20 ?a21 ?l21 ?c21 ?k21 ?a22 ?l22 ?c22 ?k22 ?a23 ?l23 ?c23 ?k23 ?a24 ?l24 ?c24 ?k24 ?a25 ?l25 ?c25 ?k25 ?a26 ?l26 ?c26 ?k26 ?a27 ?l27 ?c27 ?k27 ?a28 ?l28 ?c28 ?k28 ?a29 ?l29 ?c29 ?k29 ?a30 ?l30 ?c30 ?k30 ?a31 ?l31 ?c31 ?k31 ?a32 ?l32 ?c32 ?k32 ?a33 ?l33 ?c33 ?k33 ?a34 ?l34 ?c34 ?k34 ?a35 ?l35 ?c35 ?k35 ?a36 ?l36 ?c36 ?k36 ?a37 ?l37 ?c37 ?k37 ?a38 ?l38 ?c38 ?k38 ?a39 ?l39 ?c39 ?k39 ?a40 ?l40 ?c40 ?k40 ?a41 ?l41 ?c41 ?k41 ?a42 ?l42 ?c42 ?k42 ?a43 ?l43 ?c43 ?k43 ?a44 ?l44 ?c44 ?k44 ?a45 ?l45 ?c45 ?k45 ?z_int ?z_bool ?z_str ?z_list ?z_tuple ?z_len ?z_sum ?z_abs ?z_all ?z_range ?z_isinstance ?z_max ?z_min ?z_enumerate ?z_dict ?c_HIGHEST ?c_MOST_NUMBERS ?c_GREATEST ?c_MOST_KINDS ?c_MOST_LETTERS ?c_MOST_WIRES ?c_comb ?aCT ?aCInvalidNumber ?xLInvalidNumber ?saInvalidNumber ?gaInvalidNumber ?ggInvalidNumber ?nbInvalidNumber ?iCInvalidNumber ?tIInvalidNumber ?lIInvalidNumber ?cIInvalidNumber ?kIInvalidNumber ?kCInvalidNumber ?eCInvalidNumber ?tCInvalidNumber ?hCInvalidNumber ?iSInvalidNumber ?aCInvalidMany ?xLInvalidMany ?saInvalidMany ?gaInvalidMany ?ggInvalidMany ?nbInvalidMany ?iCInvalidMany ?tIInvalidMany ?lIInvalidMany ?cIInvalidMany ?kIInvalidMany ?kCInvalidMany ?eCInvalidMany ?tCInvalidMany ?hCInvalidMany ?iSInvalidMany ?aCInvalidParts ?xLInvalidParts ?saInvalidParts ?gaInvalidParts ?ggInvalidParts ?nbInvalidParts ?iCInvalidParts ?tIInvalidParts ?lIInvalidParts ?cIInvalidParts ?kIInvalidParts ?kCInvalidParts ?eCInvalidParts ?tCInvalidParts ?hCInvalidParts ?iSInvalidParts ?aCInvalidRest ?xLInvalidRest ?saInvalidRest ?gaInvalidRest ?ggInvalidRest ?nbInvalidRest ?iCInvalidRest ?tIInvalidRest ?lIInvalidRest ?cIInvalidRest ?kIInvalidRest ?kCInvalidRest ?eCInvalidRest ?tCInvalidRest ?hCInvalidRest ?iSInvalidRest ?aCInvalidRow ?xLInvalidRow ?saInvalidRow ?gaInvalidRow ?ggInvalidRow ?nbInvalidRow ?iCInvalidRow ?tIInvalidRow ?lIInvalidRow ?cIInvalidRow ?kIInvalidRow ?kCInvalidRow ?eCInvalidRow ?tCInvalidRow ?hCInvalidRow ?iSInvalidRow ?aCInvalidMost ?xLInvalidMost ?saInvalidMost ?gaInvalidMost ?ggInvalidMost ?nbInvalidMost ?iCInvalidMost ?tIInvalidMost ?lIInvalidMost ?cIInvalidMost ?kIInvalidMost ?kCInvalidMost ?eCInvalidMost ?tCInvalidMost ?hCInvalidMost ?iSInvalidMost ?aCL ?pgL ?hdL ?poL ?saL ?mkL ?kcL ?haL ?hnL ?htL ?hmL ?isL ?tyL ?no_list ?no_tuple ?no_int ?no_bool ?no_str ?no_dict ?su_NoneType ?su_bool ?su_int ?su_str ?su_list ?su_tuple ?su_dict ?aM0 ?iM0 ?lM0 ?cM0 ?kM0 ?n_spec ?n_sent ?n_came
    (case a1 => k_is)
    (case l1 => k_is)
    (case c1 => k_is)
    (case k1 => k_is)
    (case a2 => k_is)
    (case l2 => k_is)
    (case c2 => k_is)
    (case k2 => k_is)
    (case a3 => k_is)
    (case l3 => k_is)
    (case c3 => k_is)
    (case k3 => k_is)
    (case a4 => k_is)
    (case l4 => k_is)
    (case c4 => k_is)
    (case k4 => k_is)
    (case a5 => k_is)
    (case l5 => k_is)
    (case c5 => k_is)
    (case k5 => k_is)
    (case a6 => k_is)
    (case l6 => k_is)
    (case c6 => k_is)
    (case k6 => k_is)
    (case a7 => k_is)
    (case l7 => k_is)
    (case c7 => k_is)
    (case k7 => k_is)
    (case a8 => k_is)
    (case l8 => k_is)
    (case c8 => k_is)
    (case k8 => k_is)
    (case a9 => k_is)
    (case l9 => k_is)
    (case c9 => k_is)
    (case k9 => k_is)
    (case a10 => k_is)
    (case l10 => k_is)
    (case c10 => k_is)
    (case k10 => k_is)
    (case a11 => k_is)
    (case l11 => k_is)
    (case c11 => k_is)
    (case k11 => k_is)
    (case a12 => k_is)
    (case l12 => k_is)
    (case c12 => k_is)
    (case k12 => k_is)
    (case a13 => k_is)
    (case l13 => k_is)
    (case c13 => k_is)
    (case k13 => k_is)
    (case a14 => k_is)
    (case l14 => k_is)
    (case c14 => k_is)
    (case k14 => k_is)
    (case a15 => k_is)
    (case l15 => k_is)
    (case c15 => k_is)
    (case k15 => k_is)
    (case a16 => k_is)
    (case l16 => k_is)
    (case c16 => k_is)
    (case k16 => k_is)
    (case a17 => k_is)
    (case l17 => k_is)
    (case c17 => k_is)
    (case k17 => k_is)
    (case a18 => k_is)
    (case l18 => k_is)
    (case c18 => k_is)
    (case k18 => k_is)
    (case a19 => k_is)
    (case l19 => k_is)
    (case c19 => k_is)
    (case k19 => k_is)
    (case a20 => k_is)
    (case l20 => k_is)
    (case c20 => k_is)
    (case k20 => k_is)
    (case a21 => k_is)
    (case l21 => k_is)
    (case c21 => k_is)
    (case k21 => k_is)
    (case a22 => k_is)
    (case l22 => k_is)
    (case c22 => k_is)
    (case k22 => k_is)
    (case a23 => k_is)
    (case l23 => k_is)
    (case c23 => k_is)
    (case k23 => k_is)
    (case a24 => k_is)
    (case l24 => k_is)
    (case c24 => k_is)
    (case k24 => k_is)
    (case a25 => k_is)
    (case l25 => k_is)
    (case c25 => k_is)
    (case k25 => k_is)
    (case a26 => k_is)
    (case l26 => k_is)
    (case c26 => k_is)
    (case k26 => k_is)
    (case a27 => k_is)
    (case l27 => k_is)
    (case c27 => k_is)
    (case k27 => k_is)
    (case a28 => k_is)
    (case l28 => k_is)
    (case c28 => k_is)
    (case k28 => k_is)
    (case a29 => k_is)
    (case l29 => k_is)
    (case c29 => k_is)
    (case k29 => k_is)
    (case a30 => k_is)
    (case l30 => k_is)
    (case c30 => k_is)
    (case k30 => k_is)
    (case a31 => k_is)
    (case l31 => k_is)
    (case c31 => k_is)
    (case k31 => k_is)
    (case a32 => k_is)
    (case l32 => k_is)
    (case c32 => k_is)
    (case k32 => k_is)
    (case a33 => k_is)
    (case l33 => k_is)
    (case c33 => k_is)
    (case k33 => k_is)
    (case a34 => k_is)
    (case l34 => k_is)
    (case c34 => k_is)
    (case k34 => k_is)
    (case a35 => k_is)
    (case l35 => k_is)
    (case c35 => k_is)
    (case k35 => k_is)
    (case a36 => k_is)
    (case l36 => k_is)
    (case c36 => k_is)
    (case k36 => k_is)
    (case a37 => k_is)
    (case l37 => k_is)
    (case c37 => k_is)
    (case k37 => k_is)
    (case a38 => k_is)
    (case l38 => k_is)
    (case c38 => k_is)
    (case k38 => k_is)
    (case a39 => k_is)
    (case l39 => k_is)
    (case c39 => k_is)
    (case k39 => k_is)
    (case a40 => k_is)
    (case l40 => k_is)
    (case c40 => k_is)
    (case k40 => k_is)
    (case a41 => k_is)
    (case l41 => k_is)
    (case c41 => k_is)
    (case k41 => k_is)
    (case a42 => k_is)
    (case l42 => k_is)
    (case c42 => k_is)
    (case k42 => k_is)
    (case a43 => k_is)
    (case l43 => k_is)
    (case c43 => k_is)
    (case k43 => k_is)
    (case a44 => k_is)
    (case l44 => k_is)
    (case c44 => k_is)
    (case k44 => k_is)
    (case a45 => k_is)
    (case l45 => k_is)
    (case c45 => k_is)
    (case k45 => k_is)
    (case z_int => k_is)
    (case z_bool => k_is)
    (case z_str => k_is)
    (case z_list => k_is)
    (case z_tuple => k_is)
    (case z_len => k_is)
    (case z_sum => k_is)
    (case z_abs => k_is)
    (case z_all => k_is)
    (case z_range => k_is)
    (case z_isinstance => k_is)
    (case z_max => k_is)
    (case z_min => k_is)
    (case z_enumerate => k_is)
    (case z_dict => k_is)
    (case c_HIGHEST => k_is)
    (case c_MOST_NUMBERS => k_is)
    (case c_GREATEST => k_is)
    (case c_MOST_KINDS => k_is)
    (case c_MOST_LETTERS => k_is)
    (case c_MOST_WIRES => k_is)
    (case c_comb => k_is)
    (case aCT => k_is)
    (case aCInvalidNumber => k_is)
    (case xLInvalidNumber => k_is)
    (case saInvalidNumber => k_is)
    (case gaInvalidNumber => k_is)
    (case ggInvalidNumber => k_is)
    (case nbInvalidNumber => k_is)
    (case iCInvalidNumber => k_is)
    (case tIInvalidNumber => k_is)
    (case lIInvalidNumber => k_is)
    (case cIInvalidNumber => k_is)
    (case kIInvalidNumber => k_is)
    (case kCInvalidNumber => k_is)
    (case eCInvalidNumber => k_is)
    (case tCInvalidNumber => k_is)
    (case hCInvalidNumber => k_is)
    (case iSInvalidNumber => k_is)
    (case aCInvalidMany => k_is)
    (case xLInvalidMany => k_is)
    (case saInvalidMany => k_is)
    (case gaInvalidMany => k_is)
    (case ggInvalidMany => k_is)
    (case nbInvalidMany => k_is)
    (case iCInvalidMany => k_is)
    (case tIInvalidMany => k_is)
    (case lIInvalidMany => k_is)
    (case cIInvalidMany => k_is)
    (case kIInvalidMany => k_is)
    (case kCInvalidMany => k_is)
    (case eCInvalidMany => k_is)
    (case tCInvalidMany => k_is)
    (case hCInvalidMany => k_is)
    (case iSInvalidMany => k_is)
    (case aCInvalidParts => k_is)
    (case xLInvalidParts => k_is)
    (case saInvalidParts => k_is)
    (case gaInvalidParts => k_is)
    (case ggInvalidParts => k_is)
    (case nbInvalidParts => k_is)
    (case iCInvalidParts => k_is)
    (case tIInvalidParts => k_is)
    (case lIInvalidParts => k_is)
    (case cIInvalidParts => k_is)
    (case kIInvalidParts => k_is)
    (case kCInvalidParts => k_is)
    (case eCInvalidParts => k_is)
    (case tCInvalidParts => k_is)
    (case hCInvalidParts => k_is)
    (case iSInvalidParts => k_is)
    (case aCInvalidRest => k_is)
    (case xLInvalidRest => k_is)
    (case saInvalidRest => k_is)
    (case gaInvalidRest => k_is)
    (case ggInvalidRest => k_is)
    (case nbInvalidRest => k_is)
    (case iCInvalidRest => k_is)
    (case tIInvalidRest => k_is)
    (case lIInvalidRest => k_is)
    (case cIInvalidRest => k_is)
    (case kIInvalidRest => k_is)
    (case kCInvalidRest => k_is)
    (case eCInvalidRest => k_is)
    (case tCInvalidRest => k_is)
    (case hCInvalidRest => k_is)
    (case iSInvalidRest => k_is)
    (case aCInvalidRow => k_is)
    (case xLInvalidRow => k_is)
    (case saInvalidRow => k_is)
    (case gaInvalidRow => k_is)
    (case ggInvalidRow => k_is)
    (case nbInvalidRow => k_is)
    (case iCInvalidRow => k_is)
    (case tIInvalidRow => k_is)
    (case lIInvalidRow => k_is)
    (case cIInvalidRow => k_is)
    (case kIInvalidRow => k_is)
    (case kCInvalidRow => k_is)
    (case eCInvalidRow => k_is)
    (case tCInvalidRow => k_is)
    (case hCInvalidRow => k_is)
    (case iSInvalidRow => k_is)
    (case aCInvalidMost => k_is)
    (case xLInvalidMost => k_is)
    (case saInvalidMost => k_is)
    (case gaInvalidMost => k_is)
    (case ggInvalidMost => k_is)
    (case nbInvalidMost => k_is)
    (case iCInvalidMost => k_is)
    (case tIInvalidMost => k_is)
    (case lIInvalidMost => k_is)
    (case cIInvalidMost => k_is)
    (case kIInvalidMost => k_is)
    (case kCInvalidMost => k_is)
    (case eCInvalidMost => k_is)
    (case tCInvalidMost => k_is)
    (case hCInvalidMost => k_is)
    (case iSInvalidMost => k_is)
    (case aCL => k_is)
    (case pgL => k_is)
    (case hdL => k_is)
    (case poL => k_is)
    (case saL => k_is)
    (case mkL => k_is)
    (case kcL => k_is)
    (case haL => k_is)
    (case hnL => k_is)
    (case htL => k_is)
    (case hmL => k_is)
    (case isL => k_is)
    (case tyL => k_is)
    (case no_list => first | rfl | k_is)
    (case no_tuple => first | rfl | k_is)
    (case no_int => first | rfl | k_is)
    (case no_bool => first | rfl | k_is)
    (case no_str => first | rfl | k_is)
    (case no_dict => first | rfl | k_is)
    (case su_NoneType => first | rfl | k_is)
    (case su_bool => first | rfl | k_is)
    (case su_int => first | rfl | k_is)
    (case su_str => first | rfl | k_is)
    (case su_list => first | rfl | k_is)
    (case su_tuple => first | rfl | k_is)
    (case su_dict => first | rfl | k_is)
    (case aM0 => k_is)
    (case iM0 => k_is)
    (case lM0 => k_is)
    (case cM0 => k_is)
    (case kM0 => k_is)
    (case n_spec => k_is)
    (case n_sent => k_is)
    (case n_came => k_is)

