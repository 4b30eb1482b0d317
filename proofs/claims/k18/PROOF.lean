import PyProof.Rows.All
import Wide.All
import OpenK.AllK
import Wide.FinOn
import HandS.ForMost
import HandS.ForExc
import HandS.ExcInit
import HandS.ExcField
import HandS.TryMany
import HandS.IsInst
import HandS.Gcd
import HandS.Wide
import HandS.TupMul
import HandS.TupAny
import HandS.TupLe
import HandS.Deep
import HandS.Flow
import HandS.Defaults
import HandS.Evl
import HandS.More
import HandS.WordsDict
import KE.KMathGC
import KE.KTupSum
import HandS.Walk
import KE.GoesMore
import HandS.Style
import PyProof.WalksMore
import PyProof.WalkInts
import HandS.Conv
import HandS.Flt
import PySem.Challenge.RW_upforgood_k18_whole_rows_on_wires
set_option Elab.async false
set_option linter.all false
set_option maxRecDepth 100000
set_option maxHeartbeats 4000000
namespace L2.U
open PySem PySem.Spec PyProof.Rows Evl

/-! ## several except clauses, each with a name or without one -/
structure Clause where
  cls : Value
  slot : Option Nat
  rd : Addr → Value → Option Addr → TS
def afterC : Option Nat → Ends → Ends
  | none, D => D
  | some i, D => ⟨fun s h => D.nx (s.set i none) h, D.rt, fun s h => D.bk (s.set i none) h, fun s h => D.ct (s.set i none) h⟩
def holdC : Option Nat → Addr → St → St
  | none, _, s => s
  | some i, a, s => s.set i (some (.ref a))
def wishC (K : PySem.W.Frag) (Wo : WX) (D : Ends) : List Clause → WX
  | [] => Wo
  | c :: r => fun cls d s h => ∃ b, PySem.W.exmOne K cls c.cls = some b ∧
      (b = true → ∀ a, h a = none → c.rd a cls d (afterC c.slot D) (holdC c.slot a s) h) ∧ (b = false → wishC K Wo D r cls d s h)
abbrev SuiteOk (X : Cx) (body : List Stmt) (rd : Addr → Value → Option Addr → TS) : Prop :=
  ∀ (a : Addr) (o : Obj) (cls : Value) (d : Option Addr) (pn : List (Addr × Obj)), Zc cls d o → (∃ vs, o.data = .fields vs) → PSs (X.suite a ((a, o) :: pn)) body (rd a cls d)
inductive ClauseOk (X : Cx) : ExceptHandler → Clause → Prop
  | bare {x : Str} {c : Value} {rd} {b0 : Stmt} {su : List Stmt} {np p : Pos} (hc : Names X x c) (hs : SuiteOk X (b0 :: su) rd) :
      ClauseOk X (.ExceptHandler (some (.Name x np)) none (b0 :: su) p) ⟨c, none, rd⟩
  | named {x n : Str} {i : Nat} {c : Value} {rd} {b0 : Stmt} {su : List Stmt} {np p : Pos} (hN : X.N.Nodup) (hi : X.N[i]? = some n)
      (hl : X.env.kindOf n = some .local) (hc : Names X x c) (hs : SuiteOk X (b0 :: su) rd) :
      ClauseOk X (.ExceptHandler (some (.Name x np)) (some n) (b0 :: su) p) ⟨c, some i, rd⟩
inductive ClausesOk (X : Cx) : List ExceptHandler → List Clause → Prop
  | nil : ClausesOk X [] []
  | cons {h c hs cs} (a : ClauseOk X h c) (r : ClausesOk X hs cs) : ClausesOk X (h :: hs) (c :: cs)
section
variable {X : Cx} {body : List Stmt} {h0 : ExceptHandler} {hds : List ExceptHandler} {cs : List Clause} {pos : Pos} {tb : WX → TS} {Wo : WX}
theorem ps_tryC (hs : X.stack = X.env :: X.outer) (hf : X.env.frame = some X.env.locals) (tk : Takes X Wo)
    (hb : ∀ (W : WX) (pn : List (Addr × Obj)) (xe : Value → Shared → Prop), Takes (X.tr pn xe) W → PassesOwn (model X.prog X.w) X.A X.env xe → PSs (X.tr pn xe) body (tb W))
    (hh : ClausesOk X (h0 :: hds) cs) : PS X (.Try body (h0 :: hds) [] [] pos) (fun D s h => tb (wishC X.K Wo D cs) D s h) := by
  constructor
  intro pins s σ H D I h
  have ok := I.ok
  have frames : X.A.frames = some (X.env :: X.outer) := by rw [ok.frames, hs]
  refine wpAny_Try_except ?_
  let caught : Value → Shared → Prop := fun e s1 =>
    wpAny (model X.prog X.w) X.A (noteFrame e X.env) (fun _ s2 => wpAny (model X.prog X.w) X.A (setFlight e none)
      (fun _ s3 => wpAny (model X.prog X.w) X.A (handleBy e X.env (h0 :: hds)) (SP X pins D) X.xe s3) X.xe s2) X.xe s1
  have takesB : Takes (X.tr (X.pn ++ pins) caught) (wishC X.K Wo D cs) := by
    rintro u s' ⟨a, B, sI, pins', σ', H', cls, d, rfl, J0, nb, up, sky, na, os, ag, w⟩
    have J : Inv X pins σ' H' sI := J0.ofTry ok
    have sky1 : Sky B (X.env :: X.outer) a (Zc cls d) X.env.locals s'.heap := hs ▸ sky
    show wpAny _ X.A (noteFrame (.ref a) X.env) _ _ _
    refine Sky.land Zc.steady frames hf sky1 fun h3 fl up3 => ?_
    have J3 : Inv X pins σ' H' { s' with heap := h3 } := J.landed nb fl.1 (up.trans up3) os ag
    obtain ⟨o3, v3, g3, z3, d3⟩ := fl.there
    have out : a ∉ frs (X.env :: X.outer) := by
      intro hm
      obtain ⟨_, o', e', no⟩ := fl.2.2.1.mem hm
      rw [g3] at e'
      cases e'
      exact no _ d3
    have nL : a ≠ X.env.locals := by
      intro z
      exact out (List.mem_filterMap.mpr ⟨X.env, List.mem_cons_self, z ▸ hf⟩)
    have nF : a ∉ X.fs := by
      intro hm
      obtain ⟨e, he, q⟩ := List.mem_filterMap.mp hm
      exact out (List.mem_filterMap.mpr ⟨e, List.mem_cons_of_mem _ he, q⟩)
    have S3 := J3.suite g3 d3 na nL nF
    have ty : PySem.W.Looks (model X.prog X.w) h3 (typeOf (.ref a)) cls := fun A Q E t k q => wpAny_typeOf_ref (k _ _ g3) (by rw [z3.1]; exact q)
    have asked : ∀ {x : Str} {c : Value} {np : Pos} {Q E : Value → Shared → Prop}, Names X x c → Q c { s' with heap := h3 } →
        wpAny (model X.prog X.w) (X.A.mark (some (.ref a))) (eval (.Name x np) X.env) Q E { s' with heap := h3 } := by
      rintro x c np Q E ⟨hg, hd, hm | ⟨hm, hv, hn⟩⟩ q
      · exact ld_glob (X := X.suite a ((a, o3) :: (X.pn ++ pins))) S3 hg hm q hd
      · exact ld_blt (X := X.suite a ((a, o3) :: (X.pn ++ pins))) S3 hg hm hv q hn hd
    have run : ∀ {l : List ExceptHandler} {k : List Clause}, ClausesOk X l k → wishC X.K Wo D k cls d σ' H' →
        wpAny (model X.prog X.w) X.A (handleBy (.ref a) X.env l) (SP X pins D) X.xe { s' with heap := h3 } := by
      intro l k hk
      induction hk with
      | nil =>
        intro w
        refine wpAny_handleBy_nil ?_
        obtain ⟨_, _, _, oe, vs, T, oT, ts, he, _, hd, h1, _⟩ := id fl
        unfold PySem.passOn
        refine wpAny_bind (wpAny_field he hd h1 ?_)
        rw [if_neg (by simp : ¬ ((Value.ref T == Value.none) = true))]
        have up : wpAny (model X.prog X.w) X.A (setFlight (.ref a) X.env.frame)
            (fun _ t => wpAny (model X.prog X.w) X.A (throw (.ref a) : Sem Flow) (SP X pins D) X.xe t) X.xe { s' with heap := h3 } := by
          rw [hf]
          refine HandSPX.setFlight_upZ fl fun h4 hh4 up4 => wpAny_throw (tk _ _ ?_)
          refine ⟨a, B, sI, pins, σ', H', cls, d, rfl, J, nb, (up.trans up3).trans up4, .inr (.inr ?_), na, os, ag, w⟩
          rw [hs]
          exact hh4
        first
          | exact wpAny_bind (wpAny_pure (wpAny_bind up))
          | exact wpAny_bind up
      | @cons h1 c hs1 cs1 hc1 _ ih =>
        rintro ⟨b, mb, yes, no⟩
        have LM := PySem.W.exm_one (M := model X.prog X.w) J3.kIn ty mb
        cases hc1 with
        | @bare x c rd b0 su np p hc hsu =>
          refine wpAny_handleBy_cons (codeAny_handlers_test ?_) (by intro q; cases q)
          refine asked hc (LM.here ?_)
          cases b with
          | false => exact ih (no rfl)
          | true =>
            refine codeAny_handlers_suite (HandSPX.lands_againZ fl fun h4 fl4 up4 => ?_)
            have J4 : Inv X pins σ' H' { s' with heap := h4 } := J.landed nb fl4.1 ((up.trans up3).trans up4) os ag
            obtain ⟨o4, v4, g4, z4, d4⟩ := fl4.there
            refine wpAny_mono ((hsu a o4 cls d (X.pn ++ pins) z4 ⟨_, d4⟩).run [] _ _ H' _ (J4.suite g4 d4 na nL nF) (yes rfl a na)) ?_ (fun _ _ z => False.elim z)
            intro f s6 sp
            cases f with
            | ret u => obtain ⟨v6, σ6, H6, S6, r6, q6⟩ := sp; exact ⟨_, _, _, S6.unsuite ok, r6, q6⟩
            | next => obtain ⟨σ6, H6, S6, q6⟩ := sp; exact ⟨_, _, S6.unsuite ok, q6⟩
            | brk => obtain ⟨σ6, H6, S6, q6⟩ := sp; exact ⟨_, _, S6.unsuite ok, q6⟩
            | cont => obtain ⟨σ6, H6, S6, q6⟩ := sp; exact ⟨_, _, S6.unsuite ok, q6⟩
        | @named x n i c rd b0 su np p hN hi hl hc hsu =>
          refine wpAny_handleBy_cons (codeAny_handlers_test ?_) (by intro q; cases q)
          refine asked hc (LM.here ?_)
          cases b with
          | false => exact ih (no rfl)
          | true =>
            refine codeAny_handlers_suite_as (HandSPX.lands_againZ fl fun h4 fl4 up4 => ?_)
            have J4 : Inv X pins σ' H' { s' with heap := h4 } := J.landed nb fl4.1 ((up.trans up3).trans up4) os ag
            obtain ⟨o4, v4, g4, z4, d4⟩ := fl4.there
            refine store_ok (X := X.suite a ((a, o4) :: (X.pn ++ pins))) (v := .ref a) (J4.suite g4 d4 na nL nF) hN hi (.inl hl) rfl (fun s5 S5 => ?_) (.inr hl)
            refine wpAny_mono ((hsu a o4 cls d (X.pn ++ pins) z4 ⟨_, d4⟩).run [] s5 _ H' _ S5 (yes rfl a na)) ?_ (fun _ _ z => False.elim z)
            intro f s6 sp
            have gone : ∀ {σ6 : St} {H6 : Hp} {Q : Shared → Prop}, Inv (X.suite a ((a, o4) :: (X.pn ++ pins))) [] σ6 H6 s6 → (∀ t, Inv X pins (σ6.set i none) H6 t → Q t) →
                wpAny (model X.prog X.w) X.A (do bindName X.env n .none; unbindBehindTheSuite X.env n p) (fun _ t => Q t) X.xe s6 := fun S6 hq => gone_ok (S6.unsuite ok) hN hi hl hq
            cases f with
            | ret u => obtain ⟨v6, σ6, H6, S6, r6, q6⟩ := sp; exact gone S6 fun t J7 => ⟨_, _, _, J7, r6, q6⟩
            | next => obtain ⟨σ6, H6, S6, q6⟩ := sp; exact gone S6 fun t J7 => ⟨_, _, J7, q6⟩
            | brk => obtain ⟨σ6, H6, S6, q6⟩ := sp; exact gone S6 fun t J7 => ⟨_, _, J7, q6⟩
            | cont => obtain ⟨σ6, H6, S6, q6⟩ := sp; exact gone S6 fun t J7 => ⟨_, _, J7, q6⟩
    exact run hh w
  refine wpAny_mono ((hb (wishC X.K Wo D cs) (X.pn ++ pins) caught takesB PassesOwn.looking).run [] s σ H D (I.toTry _) h) ?_ (fun e s1 he => he)
  intro f s1 sp
  cases f with
  | ret u => obtain ⟨v, σ', H', J', r, q⟩ := sp; exact ⟨v, σ', H', J'.ofTry ok, r, q⟩
  | next => obtain ⟨σ', H', J', q⟩ := sp; exact wpAny_execs_nil ⟨σ', H', J'.ofTry ok, q⟩
  | brk => obtain ⟨σ', H', J', q⟩ := sp; exact ⟨σ', H', J'.ofTry ok, q⟩
  | cont => obtain ⟨σ', H', J', q⟩ := sp; exact ⟨σ', H', J'.ofTry ok, q⟩
end

/-! ## f(k = v, ..): keywords alone -/
def tCallKw (sp : Sp) (pm : List V → List V) (E : St → XK) (tk : TA) : TE := fun σ H Q => tk σ H fun zs H1 => sp (pm zs) H1 Q (E σ)
section
variable {X : Cx} {CX : CXT} {k : Nat} {f : Addr} {fd : FuncData} {ps ks : List Str} {sp : Sp} {E : St → XK} {x : Str} {p pos : Pos} {kws : List Keyword} {tk : TA}
  {g : List Value → List Value → List Value} {gV : List V → List V → List V}
theorem pe_callKw (F : FnOk X.prog X.w X.K X.mg X.base CX k f fd ps sp) (hr : Room k X.A) (hg : Gl X x) (hm : X.mg x = some (.ref f)) (hk : PySem.W.keepIn X.K (.ref f) = true)
    (hb : KBinds X.K fd ps ks g gV) (hx : ∀ σ, PassesAt CX X σ (E σ)) (hkw : PK X kws tk)
    (hall : (backToKw pos (keywordEach kws X.env)).all (·.1.isSome) = true := by rfl) (hks : (backToKw pos (keywordEach kws X.env)).filterMap (·.1) = ks := by rfl)
    (hdb : (x == ("__debug__" : Str)) = false := by decide)
    (hpl : ((backTo pos (starEach [] X.env)).any (·.1) || (backToKw pos (keywordEach kws X.env)).any (·.1.isNone)) = false := by rfl) :
    PE X (.Call (.Name x p) [] kws pos) (tCallKw sp (gV []) E tk) := by
  constructor
  intro pins s σ H Q I h
  refine wpAny_Call_Name_kw (ld_glob I hg hm ?_ hdb)
  refine PySem.W.callWith_KW0 (h₀ := X.base) I.ok.mod.kin hk hall (thn (hkw.run pos pins s σ H _ I h) ?_) hpl
  rintro ws s2 ⟨zs, H2, I2, rz, q2⟩
  refine ⟨I2.kIn, ?_⟩
  rw [hks]
  have r2 : Vals (gV [] zs) (g [] ws) := hb.rel .nil rz
  have hl : (g [] ws).length = ps.length := by rw [← r2.length]; exact F.len _ _ _ _ q2
  refine wpAny_call (codeAny_mono (F.run X.A X.stack s2 H2 ⟨[], ks.zip ws⟩ (g [] ws) (gV [] zs) Q (E σ) hr I2.env0 (hb.to s2 [] ws I2.kIn hl) r2 q2) ?_)
  intro r s' hq
  cases r with
  | error e => exact hx σ pins H2 s2 e s' I2 hq
  | ok fl => cases fl with
    | ret u => exact I2.after hq
    | next => exact False.elim hq
    | brk => exact False.elim hq
    | cont => exact False.elim hq
end

/-! ## math.comb, and tuple * int with few turns -/
section
variable {X : Cx}
def rComb : List V → Hp → VK → Prop := fun vs H Q => ∃ a b : Int, vs = [.int a, .int b] ∧ 0 ≤ a ∧ a ≤ 1000 ∧ 0 ≤ b ∧ b ≤ 1000 ∧ Q (.int (PySem.W.mcComb a b)) H
theorem cr_comb : CallR X (.builtin "math.comb") rComb := by
  intro pins s σ H vs us Q I r h
  obtain ⟨a, b, rfl, h1, h2, h3, h4, q⟩ := h
  obtain ⟨u1, u2, rfl, r1, r2⟩ := vals2 r
  obtain ⟨t, rfl⟩ := r1
  obtain ⟨u, rfl⟩ := r2
  exact PySem.W.mc_comb h1 h3 (by omega) (by omega) fun _ => ⟨.int _, H, I.tok _, ⟨_, rfl⟩, q⟩
end

/-! ## sum of a list or a tuple of ints; x *= y of great ints; a for over a list or a tuple -/
section
variable {X : Cx}
def rSumS (K : PySem.W.Frag) : List V → Hp → VK → Prop := fun vs H Q => ∃ (a : Addr) (ns : List Int), vs = [V.ref a] ∧ (SqL K H a (ns.map V.int) ∨ SqT K H a (ns.map V.int)) ∧ Q (.int ns.sum) H
theorem cr_sumS (hc : X.calm = true) : CallR X (.builtin "sum") (rSumS X.K) := by
  intro pins s σ H vs us Q I r h
  obtain ⟨a, ns, e, hs | hs, q⟩ := h
  · exact cr_sum hc pins s σ H vs us Q I r ⟨a, ns, e, hs, q⟩
  · subst e
    obtain ⟨its, rv, hl, _⟩ := I.tuple hs
    rw [Vals.ref1 r]
    have hi := rv.ints
    have hl2 : s.heap.IsTuple a its.toArray := hl
    obtain ⟨xs, ex⟩ := hi.allInts.items
    have hn : numsOf (intItems xs).toList = ns := by rw [← ex]; exact hi.numsOf
    rw [nums_intItems] at hn
    rw [ex] at hl2
    refine PySem.W.ktm_sumG (I.ok.hd hc) hl2 fun h' tk t' hk => ?_
    rw [preSum_eq, List.take_of_length_le (by simp), hn]
    exact ⟨.int _, H, I.kept hk, ⟨_, rfl⟩, q⟩
theorem ip_mulC : PIp X .Mult (fun x y H Q => ∃ i j, x = .int i ∧ y = .int j ∧ CMul i j ∧ Q (.int (i * j)) H) := by
  intro pins s σ H x y v u Q I r1 r2 h
  obtain ⟨i, j, rfl, rfl, hc, q⟩ := h
  obtain ⟨t, rfl⟩ := r1
  obtain ⟨t', rfl⟩ := r2
  exact imul_int ⟨.int _, H, I.tok _, ⟨_, rfl⟩, q⟩ hc.ok
def iSeq (K : PySem.W.Frag) (tl : TE) : TI := fun σ H R => iList K tl σ H R ∨ iTup K tl σ H R
theorem pi_seq {tg l : Expr} {tl : TE} (hl : PE X l tl) : PI X tg l (iSeq X.K tl) := by
  constructor
  intro pins s σ H R I h
  rcases h with h | h
  · exact (pi_list hl).run pins s σ H R I h
  · exact (pi_tup hl).run pins s σ H R I h
end

/-! ## how keywords bind -/
def kw1 {α : Type} : List α → List α → List α
  | [], [a] => [a]
  | _, _ => []
def kw12 {α : Type} : List α → List α → List α
  | [], [a, b] => [a, b]
  | _, _ => []
def kw21 {α : Type} : List α → List α → List α
  | [], [a, b] => [b, a]
  | _, _ => []
theorem kw1_rel {vs : List V} {us : List Value} {zs : List V} {ws : List Value} (r : Vals vs us) (t : Vals zs ws) : Vals (kw1 vs zs) (kw1 us ws) := by
  cases r with
  | cons _ _ => exact .nil
  | nil => cases t with
    | nil => exact .nil
    | cons a t => cases t with
      | nil => exact .cons a .nil
      | cons _ _ => exact .nil
theorem kw12_rel {vs : List V} {us : List Value} {zs : List V} {ws : List Value} (r : Vals vs us) (t : Vals zs ws) : Vals (kw12 vs zs) (kw12 us ws) := by
  cases r with
  | cons _ _ => exact .nil
  | nil => cases t with
    | nil => exact .nil
    | cons a t => cases t with
      | nil => exact .nil
      | cons b t => cases t with
        | nil => exact .cons a (.cons b .nil)
        | cons _ _ => exact .nil
theorem kw21_rel {vs : List V} {us : List Value} {zs : List V} {ws : List Value} (r : Vals vs us) (t : Vals zs ws) : Vals (kw21 vs zs) (kw21 us ws) := by
  cases r with
  | cons _ _ => exact .nil
  | nil => cases t with
    | nil => exact .nil
    | cons a t => cases t with
      | nil => exact .nil
      | cons b t => cases t with
        | nil => exact .cons b (.cons a .nil)
        | cons _ _ => exact .nil
theorem kb1 {K : PySem.W.Frag} {x qual : Str} {st : Stmt} {f : Addr} {fd : FuncData} {p k : Str} (F : Fun K x qual st f fd)
    (h : ∀ (kV doc pm : Value) (an : Option Addr) (cdv ct : Value) (u : Value), bindArgs (PySem.W.fnOf x qual (defArgs st) (defBody st) (defScope st) .none kV doc pm an cdv ct) ⟨[], [(k, u)]⟩ = pure [(p, u)]) : KBinds K fd [p] [k] kw1 kw1 := by
  obtain ⟨oc, od, kV, doc, pm, an, cdv, ct, osl, rfl, lk, hcd⟩ := F.ex
  refine ⟨fun s us ws _ hl => ?_, kw1_rel⟩
  match us, ws, hl with
  | [], [u], _ => exact .of_eq (h kV doc pm an cdv ct u)
theorem kb12 {K : PySem.W.Frag} {x qual : Str} {st : Stmt} {f : Addr} {fd : FuncData} {p q k l : Str} (F : Fun K x qual st f fd)
    (h : ∀ (kV doc pm : Value) (an : Option Addr) (cdv ct : Value) (u w : Value), bindArgs (PySem.W.fnOf x qual (defArgs st) (defBody st) (defScope st) .none kV doc pm an cdv ct) ⟨[], [(k, u), (l, w)]⟩ = pure [(p, u), (q, w)]) : KBinds K fd [p, q] [k, l] kw12 kw12 := by
  obtain ⟨oc, od, kV, doc, pm, an, cdv, ct, osl, rfl, lk, hcd⟩ := F.ex
  refine ⟨fun s us ws _ hl => ?_, kw12_rel⟩
  match us, ws, hl with
  | [], [u, w], _ => exact .of_eq (h kV doc pm an cdv ct u w)
theorem kb21 {K : PySem.W.Frag} {x qual : Str} {st : Stmt} {f : Addr} {fd : FuncData} {p q k l : Str} (F : Fun K x qual st f fd)
    (h : ∀ (kV doc pm : Value) (an : Option Addr) (cdv ct : Value) (u w : Value), bindArgs (PySem.W.fnOf x qual (defArgs st) (defBody st) (defScope st) .none kV doc pm an cdv ct) ⟨[], [(k, u), (l, w)]⟩ = pure [(p, w), (q, u)]) : KBinds K fd [p, q] [k, l] kw21 kw21 := by
  obtain ⟨oc, od, kV, doc, pm, an, cdv, ct, osl, rfl, lk, hcd⟩ := F.ex
  refine ⟨fun s us ws _ hl => ?_, kw21_rel⟩
  match us, ws, hl with
  | [], [u, w], _ => exact .of_eq (h kV doc pm an cdv ct u w)

/-! ## tuple * int -/
theorem tmul0 (l : Addr) (items : Array Value) (n : Nat) (dd : Option Addr) (sl : Array (Option Value)) (u : Tok) (hne : items.isEmpty = false) :
    Meets (Builtin.«tuple.__mul__» ⟨[.ref l, .int 0 u], []⟩) (fun _ R s => s.heap.get? l = some { cls := .type "tuple", dict := dd, data := .seq items n, slots := sl } ∧
      R (.ok (.ret (Value.ref s.heap.objs.size))) { s with heap := s.heap.push { cls := Value.type "tuple", data := Data.seq #[] } }) :=
  .of_wp fun prog w A R s h => by
    obtain ⟨hp, g, d, tk, os⟩ := s
    obtain ⟨hl, h⟩ := h
    have f1 := AutoSeq1.idx_int
    have c1 : (items.isEmpty || (0 : Int) == 1) = false := by rw [hne]; rfl
    wp_walk using wpAny_loadPart' hl
    exact ⟨_, rfl, h⟩
theorem tmul1 (l : Addr) (items : Array Value) (n : Nat) (dd : Option Addr) (sl : Array (Option Value)) (u : Tok) (hne : items.isEmpty = false) :
    Meets (Builtin.«tuple.__mul__» ⟨[.ref l, .int 1 u], []⟩) (fun _ R s => s.heap.get? l = some { cls := .type "tuple", dict := dd, data := .seq items n, slots := sl } ∧
      R (.ok (.ret (Value.ref l))) s) :=
  .of_wp fun prog w A R s h => by
    obtain ⟨hp, g, d, tk, os⟩ := s
    obtain ⟨hl, h⟩ := h
    have f1 := AutoSeq1.idx_int
    wp_walk using wpAny_loadPart' hl
    exact ⟨_, rfl, h⟩

def rRepA (K : PySem.W.Frag) : R2 := fun x y H Q => ∃ (l : Addr) (k : Int) (xs : List V), x = .ref l ∧ y = .int k ∧ SqT K H l xs ∧ xs ≠ [] ∧ 0 ≤ k ∧ k ≤ 1000 ∧ xs.length ≤ 1000 ∧
  ∀ p H', Ex H H' → SqT K H' p (List.replicate k.toNat xs).flatten → Q (.ref p) H'
theorem op_repA {X : Cx} : OpR X (binaryOp .Mult) (rRepA X.K) := by
  intro pins s σ H x y v u Q I rx ry h
  obtain ⟨l, k, xs, rfl, rfl, hT, hne, h0, h1, hz, q⟩ := h
  by_cases h2 : 2 ≤ k
  · exact op_repT pins s σ H (.ref l) (.int k) v u Q I rx ry ⟨l, k, xs, rfl, rfl, hT, hne, h2, h1, hz, fun p hp => q p _ (Ex.new hp) (st_of upd_same)⟩
  · cases rx
    obtain ⟨t, rfl⟩ := ry
    obtain ⟨its, r, ⟨⟨cls, dd, data, sl⟩, ho, hc, n, hd⟩, hs⟩ := I.tuple hT
    simp only at hc hd
    subst hc hd
    have hle : its.length = xs.length := r.length.symm
    have hi : its.toArray.isEmpty = false := by
      cases its with
      | nil => exact absurd (List.eq_nil_of_length_eq_zero hle.symm) hne
      | cons a b => rfl
    rcases (by omega : k = 0 ∨ k = 1) with rfl | rfl
    · refine wpAny_binaryOp_repeat_ref (T := "tuple") (U := "int") (by decide) ⟨_, ho, rfl⟩ (fun s' => typeIs_int s' 0 t) noFill_tuple_mul F.fills_int_mul F.slot_int_rmul repeat_tuple F.slot_int_index.lookup
        (call_meets F.slot_int_rmul (typeIs_int s 0 t) F.entry_int_rmul (F.args_int_rmul_2 _ _) (int_rmul_tuple 0 t l its.toArray n dd sl)
          ⟨ho, rfl, ⟨_, ho, rfl⟩, call_meets F.slot_tuple_mul ⟨_, ho, rfl⟩ F.entry_tuple_mul (F.args_tuple_mul_2 _ _) (tmul0 l its.toArray n dd sl t hi) ⟨ho, ?_⟩⟩)
      refine ⟨.ref s.heap.objs.size, _, I.laid (t' := s.toks) (o := .tup []) (fun b ob e => Heap.get?_push_of_some _ e) (Nat.le_refl _) ?_, rfl, q _ _ (Ex.new (I.hok.fresh (Nat.le_refl _))) (st_of upd_same)⟩
      exact ⟨Nat.zero_le _, [], .nil, IsTup.new _ _⟩
    · refine wpAny_binaryOp_repeat_ref (T := "tuple") (U := "int") (by decide) ⟨_, ho, rfl⟩ (fun s' => typeIs_int s' 1 t) noFill_tuple_mul F.fills_int_mul F.slot_int_rmul repeat_tuple F.slot_int_index.lookup
        (call_meets F.slot_int_rmul (typeIs_int s 1 t) F.entry_int_rmul (F.args_int_rmul_2 _ _) (int_rmul_tuple 1 t l its.toArray n dd sl)
          ⟨ho, rfl, ⟨_, ho, rfl⟩, call_meets F.slot_tuple_mul ⟨_, ho, rfl⟩ F.entry_tuple_mul (F.args_tuple_mul_2 _ _) (tmul1 l its.toArray n dd sl t hi) ⟨ho, ?_⟩⟩)
      refine ⟨.ref l, H, I, rfl, q _ _ (Ex.refl H) ?_⟩
      have e : (List.replicate (Int.toNat 1) xs).flatten = xs := by simp
      rw [e]
      exact hT

/-! ## a def of the text, in one bundle -/
structure DefAt (K : PySem.W.Frag) (mg : Str → Option Value) (x : Str) (st : Stmt) (ps : List Str) where
  a : Addr
  fd : FuncData
  F : Fun K x x st a fd
  m : mg x = some (.ref a)
  b : Binds K fd ps []
theorem pass0At {X : Cx} {σ : St} : PassesAt CX0 X σ E0 := fun _ _ _ _ _ _ h => h.elim

/-! ## heaps: all but one object stands -/
def But (b : Addr) (H H' : Hp) : Prop := ∀ a o, a ≠ b → H a = some o → H' a = some o
theorem But.of {b : Addr} {H H' : Hp} (e : Ex H H') : But b H H' := fun a o _ h => e a o h
theorem But.trans {b : Addr} {H H1 H2 : Hp} (x : But b H H1) (y : But b H1 H2) : But b H H2 := fun a o n h => y a o n (x a o n h)
theorem But.ex {b : Addr} {H H1 H2 : Hp} (x : But b H H1) (y : Ex H1 H2) : But b H H2 := fun a o n h => y a o (x a o n h)
theorem But.pre {b : Addr} {H H1 H2 : Hp} (x : Ex H H1) (y : But b H1 H2) : But b H H2 := fun a o n h => y a o n (x a o h)
theorem But.upd {b : Addr} {H : Hp} {o : HO} : But b H (upd H b o) := fun a u n h => by rw [upd_ne n]; exact h
theorem But.none {b p : Addr} {H H' : Hp} {o : HO} (x : But b H H') (hb : H b = some o) (h : H' p = none) : p ≠ b → H p = none := fun n => by
  cases e : H p with
  | none => rfl
  | some u => rw [x p u n e] at h; cases h
theorem ne_new {H : Hp} {p b : Addr} {o : HO} (h : H p = none) (hb : H b = some o) : p ≠ b := fun e => by rw [e, hb] at h; cases h
/-- what is frozen or written stands whatever happens to b; a tracked list that is no b, too -/
theorem But.sql {K : PySem.W.Frag} {b a : Addr} {H H' : Hp} {xs : List V} (x : But b H H') (n : a ≠ b) (h : SqL K H a xs) : SqL K H' a xs := by
  rcases h with (h | ⟨o, h⟩) | h
  · exact .inl (.inl (x _ _ n h))
  · exact .inl (.inr ⟨o, x _ _ n h⟩)
  · exact .inr h
theorem But.sqt {K : PySem.W.Frag} {b a : Addr} {H H' : Hp} {xs : List V} (x : But b H H') (n : a ≠ b) (h : SqT K H a xs) : SqT K H' a xs := by
  rcases h with (h | ⟨o, h⟩) | h
  · exact .inl (.inl (x _ _ n h))
  · exact .inl (.inr ⟨o, x _ _ n h⟩)
  · exact .inr h

/-! ## the box of draws: digits, flag, seed, count; n draws are left -/
def BoxAt (H : Hp) (b : Addr) (n : Nat) : Prop := ∃ (d m c : Int) (f : Bool), H b = some (.lst [.int d, .bl f, .int m, .int c]) ∧ 0 ≤ d ∧ 0 ≤ m ∧ m < 2147483648 ∧ 0 ≤ c ∧ c + n ≤ 1000000
theorem BoxAt.some {H : Hp} {b : Addr} {n : Nat} (h : BoxAt H b n) : ∃ o, H b = some o := by
  obtain ⟨d, m, c, f, h, _⟩ := h
  exact ⟨_, h⟩
theorem BoxAt.le {H : Hp} {b : Addr} {n k : Nat} (h : BoxAt H b n) (l : k ≤ n) : BoxAt H b k := by
  obtain ⟨d, m, c, f, h, h1, h2, h3, h4, h5⟩ := h
  exact ⟨d, m, c, f, h, h1, h2, h3, h4, by omega⟩
theorem BoxAt.ex {H H' : Hp} {b : Addr} {n : Nat} (h : BoxAt H b n) (e : Ex H H') : BoxAt H' b n := by
  obtain ⟨d, m, c, f, h, r⟩ := h
  exact ⟨d, m, c, f, e _ _ h, r⟩
theorem BoxAt.ne {H : Hp} {b p : Addr} {n : Nat} (h : BoxAt H b n) (hp : H p = none) : p ≠ b := by
  obtain ⟨d, m, c, f, h, _⟩ := h
  exact ne_new hp h
def spCell (K : PySem.W.Frag) : Sp := fun vs H Q _ => ∃ (a : Addr) (ns : List Int) (k : Int), vs = [.ref a, .int k] ∧ SqL K H a (ns.map V.int) ∧ 0 ≤ k ∧ k ≤ 1000 ∧ ∀ (v : Int) H', Ex H H' → Q (.int v) H'
def spBox : Sp := fun vs H Q _ => ∃ g : Int, vs = [.int g] ∧ ∀ p H', H p = none → Ex H H' → BoxAt H' p 1000000 → Q (.ref p) H'
def spTake : Sp := fun vs H Q _ => ∃ (b : Addr) (m : Int) (n : Nat), vs = [.ref b, .int m] ∧ 0 < m ∧ m < 1073741824 ∧ BoxAt H b (n + 1) ∧
  ∀ r H', 0 ≤ r → r < m → BoxAt H' b n → But b H H' → Q (.int r) H'

/-! ## types of data -/
theorem tyL {K : PySem.W.Frag} {H : Hp} {a : Addr} {xs : List V} (h : SqL K H a xs) : TyX K H (.ref a) (.type "list") := by
  rcases h with (h | ⟨o, h⟩) | ⟨o, its, n, hk, hc, _⟩
  · exact .base (.lst h)
  · exact .base (.frz h)
  · exact .kList hk hc
theorem tyT {K : PySem.W.Frag} {H : Hp} {a : Addr} {xs : List V} (h : SqT K H a xs) : TyX K H (.ref a) (.type "tuple") := by
  rcases h with (h | ⟨o, h⟩) | ⟨o, its, n, hk, hc, _⟩
  · exact .base (.tup h)
  · exact .fTuple h
  · exact .kTuple hk hc
/-- two values that hold the same, at most n lists and tuples within one another -/
inductive Sm (K : PySem.W.Frag) (H : Hp) : Nat → V → V → Prop
  | non {n} : Sm K H n .non .non
  | bl {n} (b : Bool) : Sm K H n (.bl b) (.bl b)
  | int {n} (i : Int) : Sm K H n (.int i) (.int i)
  | str {n} (z : Str) (h : z.length ≤ 1000) : Sm K H n (.str z) (.str z)
  | lst {n} {a b : Addr} {xs ys : List V} (h1 : SqL K H a xs) (h2 : SqL K H b ys) (hl : xs.length = ys.length) (hz : xs.length ≤ 1000)
      (all : ∀ (i : Nat) (x y : V), xs[i]? = some x → ys[i]? = some y → Sm K H n x y) : Sm K H (n + 1) (.ref a) (.ref b)
  | tup {n} {a b : Addr} {xs ys : List V} (h1 : SqT K H a xs) (h2 : SqT K H b ys) (hl : xs.length = ys.length) (hz : xs.length ≤ 1000)
      (all : ∀ (i : Nat) (x y : V), xs[i]? = some x → ys[i]? = some y → Sm K H n x y) : Sm K H (n + 1) (.ref a) (.ref b)
  | dct {n} {a b : Addr} (h1 : H a = some (.dK [])) (h2 : H b = some (.dK [])) : Sm K H (n + 1) (.ref a) (.ref b)
theorem Sm.ex {K : PySem.W.Frag} {H H' : Hp} (e : Ex H H') {n : Nat} {x y : V} (h : Sm K H n x y) : Sm K H' n x y := by
  induction h with
  | non => exact .non
  | bl b => exact .bl b
  | int i => exact .int i
  | str z h => exact .str z h
  | lst h1 h2 hl hz _ ih => exact .lst (ex_l e h1) (ex_l e h2) hl hz ih
  | tup h1 h2 hl hz _ ih => exact .tup (ex_t e h1) (ex_t e h2) hl hz ih
  | dct h1 h2 => exact .dct (e _ _ h1) (e _ _ h2)
theorem Sm.succ {K : PySem.W.Frag} {H : Hp} {n : Nat} {x y : V} (h : Sm K H n x y) : Sm K H (n + 1) x y := by
  induction h with
  | non => exact .non
  | bl b => exact .bl b
  | int i => exact .int i
  | str z h => exact .str z h
  | lst h1 h2 hl hz _ ih => exact .lst h1 h2 hl hz ih
  | tup h1 h2 hl hz _ ih => exact .tup h1 h2 hl hz ih
  | dct h1 h2 => exact .dct h1 h2
theorem Sm.le {K : PySem.W.Frag} {H : Hp} {n m : Nat} {x y : V} (h : Sm K H n x y) (l : n ≤ m) : Sm K H m x y := by
  induction l with
  | refl => exact h
  | step _ ih => exact ih.succ
theorem Sm.ints {K : PySem.W.Frag} {H : Hp} {n : Nat} {ns : List Int} : ∀ (i : Nat) (x y : V), (ns.map V.int)[i]? = some x → (ns.map V.int)[i]? = some y → Sm K H n x y := by
  intro i x y h1 h2
  rw [h1] at h2
  cases h2
  rw [List.getElem?_map] at h1
  cases e : ns[i]? with
  | none => rw [e] at h1; cases h1
  | some z => rw [e] at h1; cases h1; exact .int z
def spSame (K : PySem.W.Frag) (n : Nat) : Sp := fun vs H Q _ => ∃ x y, vs = [x, y] ∧ Sm K H n x y ∧ ∀ H', Ex H H' → Q (.bl true) H'
theorem cut_one {z : Str} {k : Nat} {c : Nat} (h : z.cps.toList[k]? = some c) : cutS z (some (k : Int)) (some ((k : Int) + 1)) = ⟨#[c]⟩ := by
  have hk := (List.getElem?_eq_some_iff.mp h).1
  have hz : z.cps.toList.length = z.length := Array.length_toList
  unfold cutS
  have e : ((k : Int) + 1) = ((k + 1 : Nat) : Int) := by omega
  rw [e, HT.sIx_nat, HT.sIx_nat, Nat.min_eq_left (by omega), Nat.min_eq_left (by omega)]
  have e2 : k + 1 - k = 1 := by omega
  rw [e2, List.drop_eq_getElem_cons hk]
  have e3 := (List.getElem?_eq_some_iff.mp h).2
  simp [e3]

/-! ## the rules whose reading speaks of the written part, with it named (within a comprehension's block) -/
section
variable {X : Cx}
def rLen (K : PySem.W.Frag) : List V → Hp → VK → Prop := fun xs H Q => ∃ x n, xs = [x] ∧ LenV K x H n ∧ Q (.int (n : Nat)) H
def rListOf (K : PySem.W.Frag) : List V → Hp → VK → Prop := fun xs H Q => ∃ p ys, xs = [.ref p] ∧ (SqL K H p ys ∨ SqT K H p ys) ∧ ∀ l, H l = none → Q (.ref l) (upd H l (.lst ys))
def rTupOf (K : PySem.W.Frag) : List V → Hp → VK → Prop := fun xs H Q => ∃ p ys, xs = [.ref p] ∧ ((SqL K H p ys ∧ ∀ l, H l = none → Q (.ref l) (upd H l (.tup ys))) ∨ (SqT K H p ys ∧ Q (.ref p) H))
theorem kix (K : PySem.W.Frag) (h : X.K = K := by rfl) : IxR X (rIx K) := by subst h; exact ix_seq
theorem kixl (K : PySem.W.Frag) (h : X.K = K := by rfl) : IxR X (rIxL K) := by subst h; exact ix_list
theorem kixt (K : PySem.W.Frag) (h : X.K = K := by rfl) : IxR X (rIxT K) := by subst h; exact ix_tup
theorem klen (K : PySem.W.Frag) (h : X.K = K := by rfl) : CallR X (.builtin "len") (rLen K) := by subst h; exact call_len
theorem klist (K : PySem.W.Frag) (h : X.K = K := by rfl) : CallR X (.type "list") (rListOf K) := by subst h; exact call_list_of
theorem ktuple (K : PySem.W.Frag) (h : X.K = K := by rfl) : CallR X (.type "tuple") (rTupOf K) := by subst h; exact call_tuple_of
theorem kisi (K : PySem.W.Frag) (h : X.K = K := by rfl) : CallR X (.builtin "isinstance") (rIsi K) := by subst h; exact call_isi
theorem kisiT (K : PySem.W.Frag) (h : X.K = K := by rfl) : CallR X (.builtin "isinstance") (rIsiT K) := by subst h; exact call_isiT
theorem keqD (K : PySem.W.Frag) (hu : X.A.units + 64 < cLine) (h : X.K = K := by rfl) : OpR X (compareOp .Eq) (rEqD K) := by subst h; exact op_eqD hu
theorem kneD (K : PySem.W.Frag) (hu : X.A.units + 64 < cLine) (h : X.K = K := by rfl) : OpR X (compareOp .NotEq) (rNeD K) := by subst h; exact op_neD hu
theorem kin (K : PySem.W.Frag) (h : X.K = K := by rfl) : OpR X (compareOp .In) (rIn K false) := by subst h; exact op_in_seq
theorem knotin (K : PySem.W.Frag) (h : X.K = K := by rfl) : OpR X (compareOp .NotIn) (rIn K true) := by subst h; exact op_notIn_seq
theorem kcatA (K : PySem.W.Frag) (h : X.K = K := by rfl) : OpR X (binaryOp .Add) (rCatA K) := by subst h; exact op_catA
theorem krepA (K : PySem.W.Frag) (h : X.K = K := by rfl) : OpR X (binaryOp .Mult) (rRepA K) := by subst h; exact op_repA
theorem kslL (K : PySem.W.Frag) (h : X.K = K := by rfl) : SlR X (rSlL K) := by subst h; exact sl_list
theorem kslT (K : PySem.W.Frag) (h : X.K = K := by rfl) : SlR X (rSlA K) := by subst h; exact sl_tupA
theorem ksum (K : PySem.W.Frag) (hc : X.calm = true) (h : X.K = K := by rfl) : CallR X (.builtin "sum") (rSumS K) := by subst h; exact cr_sumS hc
theorem kall (K : PySem.W.Frag) (hc : X.calm = true) (h : X.K = K := by rfl) : CallR X (.builtin "all") (rAll K) := by subst h; exact cr_all hc
theorem kpil (K : PySem.W.Frag) {tg l : Expr} {tl : TE} (hl : PE X l tl) (h : X.K = K := by rfl) : PI X tg l (iList K tl) := by subst h; exact pi_list hl
theorem kpit (K : PySem.W.Frag) {tg l : Expr} {tl : TE} (hl : PE X l tl) (h : X.K = K := by rfl) : PI X tg l (iTup K tl) := by subst h; exact pi_tup hl
theorem kpis (K : PySem.W.Frag) {tg l : Expr} {tl : TE} (hl : PE X l tl) (h : X.K = K := by rfl) : PI X tg l (iSeq K tl) := by subst h; exact pi_seq hl
end

/-! ## own errors with one attribute -/
structure ErrAt (K : PySem.W.Frag) (mg : Str → Option Value) (x qi : Str) (st : Stmt) (f : Str) where
  C : Addr
  fI : Addr
  fd : FuncData
  F : Fun K "__init__" qi st fI fd
  b : Binds K fd ["self", f] []
  T : OexC K C
  iC : PySem.W.findIn K (.ref C) "__init__" = some (some (.ref fI))
  tI : PySem.W.typeIn K (.ref fI) = some (.type "function")
  gC : mg x = some (.ref C)
  nf : PySem.W.findIn K (.ref C) f = some none
  xf : XfC K C
def spInit (C : Addr) (f : Str) : Sp := fun vs H Q _ => ∃ (a : Addr) (y : V), vs = [.ref a, y] ∧ H a = some (exo a C none) ∧
  ∀ d, H d = none → d ≠ a → Q .non (upd (upd H d (exd d [(f, y)])) a (exo a C (some d)))
theorem raised {C a : Addr} {H : Hp} {f : Str} {y : V} {Q : XK} {E : XK} (ha : H a = none) (q : ∀ d H', Ex H H' → H' d = some (.xd [(f, y)]) → Q (.ref C) (some d) H') :
    spInit C f [.ref a, y] (upd H a (exo a C none)) (fun v H2 => v = .non ∧ ∃ (d : Addr) (fs : List (Str × V)), H2 a = some (exo a C (some d)) ∧ H2 d = some (exd d fs) ∧ H d = none ∧ Q (.ref C) (some d) (upd (del H2 a) d (.xd fs))) E := by
  refine ⟨a, y, rfl, upd_same, fun d hd nd => ⟨rfl, d, [(f, y)], upd_same, ?_, ?_, ?_⟩⟩
  · rw [upd_ne nd]; exact upd_same
  · rw [upd_ne nd] at hd; exact hd
  · rw [upd_ne nd] at hd
    refine q d _ (fun b o hb => ?_) upd_same
    have h1 : b ≠ a := ne_of_none hb ha
    have h2 : b ≠ d := ne_of_none hb hd
    rw [upd_ne h2, del_ne h1, upd_ne h1, upd_ne h2, upd_ne h1]
    exact hb
/-- a check: it lets what is right, else raises the error of C with the very value -/
def spChk (C : Addr) (ok : Int → Prop) : Sp := fun vs H Q E => ∃ i : Int, vs = [.int i] ∧ (ok i → ∀ H', Ex H H' → Q .non H') ∧
  (¬ ok i → ∀ d H', Ex H H' → H' d = some (.xd [("given", .int i)]) → E (.ref C) (some d) H')
end L2.U


set_option Elab.async false
set_option linter.all false
set_option maxRecDepth 100000
set_option maxHeartbeats 4000000
namespace L2.U
open PySem PySem.Spec PyProof.Rows Evl
open Sem (wp)
open AutoSeq1 (wpAny_loadPart')
/-! ### enumerate(tuple), and enumerate of a list or a tuple -/
theorem meets_enumT (l : Addr) (items : Array Value) (n : Nat) (dct : Option Addr) (sl : Array (Option Value)) :
    Meets (Builtin.«enumerate.__new__» ⟨[.type "enumerate", .ref l], []⟩) (fun _ R s => s.heap.get? l = some { cls := .type "tuple", dict := dct, data := .seq items n, slots := sl } ∧
      R (.ok (.ret (.ref (s.heap.push { cls := .type "tuple_iterator", data := .fields #[.ref l, .int 0 0] }).objs.size)))
        { s with heap := (s.heap.push { cls := .type "tuple_iterator", data := .fields #[.ref l, .int 0 0] }).push { cls := .type "enumerate", data := .fields #[.none, .bool false, .ref s.heap.objs.size, rawInt 0, .none, .none] } }) :=
  .of_wp fun prog w A R s h => by
    obtain ⟨hp, g, d, tk, os⟩ := s
    obtain ⟨hl, h⟩ := h
    have hsub := sub_enumerate
    have hL : Heap.IsTuple (Shared.heap ⟨hp, g, d, tk, os⟩) l items := ⟨_, hl, rfl, n, rfl⟩
    wp_walk using wpAny_loadPart' hl
    refine wpAny_stack_any fun st => wpAny_pure ?_
    split
    · rename_i c _ _ _ _ _
      cases (c == Value.type "enumerate")
      · wp_walk using wpAny_loadPart' hl, wpAny_pyIter_tuple hL
        exact ⟨_, rfl, h⟩
      · wp_walk using wpAny_loadPart' hl, wpAny_pyIter_tuple hL
        exact ⟨_, rfl, h⟩
    · wp_walk using wpAny_loadPart' hl, wpAny_pyIter_tuple hL
      exact ⟨_, rfl, h⟩
theorem call_enumT {prog : Program} {w : World} {A : Around} {E : Value → Shared → Prop} {s : Shared} {l : Addr} {items : Array Value} {Q : Value → Shared → Prop} (hL : s.heap.IsTuple l items)
    (h : ∀ h', IsEnum h' (s.heap.objs.size + 1) s.heap.objs.size 0 .none → h'.IsTupleIter s.heap.objs.size l 0 → h'.objs.size = s.heap.objs.size + 2 →
      (∀ b o, s.heap.get? b = some o → h'.get? b = some o) → Q (.ref (s.heap.objs.size + 1)) { s with heap := h' }) :
    wpAny (model prog w) A (call (.type "enumerate") [.ref l]) Q E s := by
  obtain ⟨⟨c, dct, dt, sl⟩, hl, hc, n, hd⟩ := hL
  replace hc : c = .type "tuple" := hc
  replace hd : dt = .seq items n := hd
  subst hc hd
  refine callType_new F.called_enumerate (by decide) (F.typeCall_enumerate_1 _) (F.newCall_enumerate_1 _) (fun obj => F.args_object_init_2 obj _) F.entry_enumerate_new
    (meets_enumT l items n dct sl) ⟨hl, ?_⟩
  have hz : (s.heap.push { cls := .type "tuple_iterator", data := .fields #[.ref l, .int 0 0] }).objs.size = s.heap.objs.size + 1 := Heap.size_push ..
  show _ ∧ _
  rw [hz]
  have he : IsEnum ((s.heap.push { cls := .type "tuple_iterator", data := .fields #[.ref l, .int 0 0] }).push
      { cls := .type "enumerate", data := .fields #[.none, .bool false, .ref s.heap.objs.size, rawInt 0, .none, .none] }) (s.heap.objs.size + 1) s.heap.objs.size 0 .none := by
    have := Heap.get?_push_size (s.heap.push { cls := .type "tuple_iterator", data := .fields #[.ref l, .int 0 0] })
      (o := { cls := .type "enumerate", data := .fields #[.none, .bool false, .ref s.heap.objs.size, rawInt 0, .none, .none] }) rfl
    rw [hz] at this
    exact this
  refine ⟨⟨_, he, rfl⟩, h _ he ⟨_, Heap.get?_push_of_some _ (Heap.get?_push_size _ rfl), rfl, rfl⟩ (by rw [Heap.size_push, hz]) fun b o x => Heap.get?_push_of_some _ (Heap.get?_push_of_some _ x)⟩
def IteT (K : PySem.W.Frag) (a : Addr) : It :=
  ⟨fun i H => ∃ (xs : List V) (x : V), SqT K H a xs ∧ xs[i]? = some x, fun i H v H' => ∃ T x, v = .ref T ∧ H T = none ∧ H' = upd H T (.tup [.int (i : Nat), x]) ∧ ∀ xs, SqT K H a xs → xs[i]? = some x, fun i H => ∃ xs : List V, SqT K H a xs ∧ xs.length ≤ i⟩
theorem turn_enumT {P : Program} {w : World} {K : PySem.W.Frag} {elts : List Expr} {kk : Nat} {tpos : Pos} (a e it : Addr) (hai : a ≠ it) (hae : a ≠ e) :
    Turn P w K (.Tuple elts kk tpos) (IteT K a) [e, it] e (fun i h => (∃ old, IsEnum h e it ((i : Nat) : Int) old) ∧ h.IsTupleIter it a i ∧ e ≠ it) where
  mem := by simp
  obj := fun i h st b hb => by
    obtain ⟨⟨old, he⟩, ⟨o, ho, hc, hd⟩, _⟩ := st
    have e' : b = e ∨ b = it := by simpa using hb
    rcases e' with z | z
    · rw [z]; exact ⟨_, he, fun v q => nomatch q⟩
    · rw [z]; exact ⟨o, ho, fun v q => by rw [hd] at q; cases q⟩
  keep := fun i h h' st k => let ⟨⟨old, he⟩, hi, hne⟩ := st; ⟨⟨old, k e (by simp) _ he⟩, hi.at fun o q => k it (by simp) o q, hne⟩
  item := by
    intro X hP hw hK hc i pins s σ H E I hf st hg
    subst hP hw hK
    obtain ⟨⟨old, he⟩, hit, hne⟩ := st
    obtain ⟨xs, x, hq, hx⟩ := hg
    obtain ⟨its, rv, p, hz⟩ := I.tuple hq
    have p' : s.heap.IsTuple a its.toArray := p
    obtain ⟨u, hu, ru⟩ := rv.get hx
    have hel : e < s.heap.objs.size := Heap.lt_size he
    have hil : it < s.heap.objs.size := by obtain ⟨_, q, _⟩ := hit; exact Heap.lt_size q
    have hlt : i < its.toArray.size := by simpa using (List.getElem?_eq_some_iff.mp hu).1
    refine wpAny_pyNext_enum_itemD (Draws.tuple (prog := X.prog) (w := X.w) (A := X.A.in1) (I.ok.hd hc) it a hai its.toArray) he ⟨hit, p'⟩ hlt hne (by simp [hne, Ne.symm hae]) fun v h' tk hv ho hst hT hsz hk => ?_
    obtain ⟨hit', p2⟩ := hst
    have hvu : v = u := by
      have h2 : its.toArray[i]? = some u := by simpa using hu
      rw [h2] at hv
      exact (Option.some.inj hv).symm
    subst hvu
    refine ⟨_, rfl, wpAny_letOwnedTupleGo_enum (s := { s with heap := h', toks := tk + 1 }) ho fun h'' he' sb => ?_⟩
    have hT2 : h''.get? s.heap.objs.size = some { cls := .type "tuple", data := .seq #[.int i tk, v] } := (sb.2 _ (Nat.ne_of_gt hel)).trans hT
    have new : ObjOk X.prog X.w (upd H s.heap.objs.size (.tup [.int (i : Nat), x])) h'' s.heap.objs.size (.tup [.int (i : Nat), x]) :=
      ⟨by show 2 ≤ sizeLine; decide, [.int i tk, v], .cons ⟨_, rfl⟩ (.cons ru .nil), ⟨_, hT2, rfl, _, rfl⟩⟩
    have I1 : Inv X pins σ (upd H s.heap.objs.size (.tup [.int (i : Nat), x])) { s with heap := h'', toks := tk + 1 } :=
      I.turnedNew (ch := [e, it]) (fun b ob hb q => (sb.2 b (fun z => hb (by simp [z]))).trans (hk b ob (fun z => hb (by simp [z])) (fun z => hb (by simp [z])) q)) hf (Nat.le_refl _) new
    refine ⟨.ref s.heap.objs.size, _, I1, rfl, ⟨_, x, rfl, I.hok.fresh (Nat.le_refl _), rfl, fun ys hy => by rw [I.tuple_inj hy hq]; exact hx⟩, ⟨⟨v, ?_⟩, hit'.at fun o q => (sb.2 it (Ne.symm hne)).trans q, hne⟩, fun b hb => ?_⟩
    · have e1 : ((i + 1 : Nat) : Int) = (i : Int) + 1 := by omega
      rw [e1]; exact he'
    · have hb' : b < s.heap.objs.size := by
        have e' : b = e ∨ b = it := by simpa using hb
        rcases e' with z | z
        · rw [z]; exact hel
        · rw [z]; exact hil
      rw [upd_ne (Nat.ne_of_lt hb')]
      exact (hf b hb).1
  done := by
    intro X hP hw hK hc i pins s σ H E I hf st hg
    subst hP hw hK
    obtain ⟨⟨old, he⟩, hit, hne⟩ := st
    obtain ⟨xs, hq, hx⟩ := hg
    obtain ⟨its, rv, p, hz⟩ := I.tuple hq
    have p' : s.heap.IsTuple a its.toArray := p
    obtain ⟨f0, f1, f2, f3, f4, f5⟩ := hf it (by simp)
    have hl := rv.length
    have full : Draws X.prog X.w X.A.in1 it [it, a] i (fun _ _ => True) (fun j h => j = i ∧ h.IsTupleIter it a j ∧ h.IsTuple a its.toArray) :=
      { live := fun j h st => let ⟨_, ⟨o, ho, _⟩, _⟩ := st; ⟨o, ho⟩
        frame := fun j h h' st hk => ⟨st.1, st.2.1.at fun o e => hk it (by simp) o e, by
          obtain ⟨o, ho, r⟩ := st.2.2
          exact ⟨o, hk a (by simp) o ho, r⟩⟩
        item := fun j s Q E hj st hQ => absurd st.1 (Nat.ne_of_lt hj)
        done := fun s Q E st hE => wpAny_nextOf_tuple_end (show X.A.in1.handled = none from I.ok.hd hc) st.2.1 st.2.2 (by simp; omega) hE }
    exact wpAny_pyNext_enum_endD full he ⟨rfl, hit, p'⟩ fun h' eb => ⟨rfl, I.turned (t' := s.toks) (fun b o hb q => eb b o hb q) f0 f1 f3 f4 f5⟩
  self := fun A i s Q E st h => let ⟨⟨_, he⟩, _⟩ := st; wpAny_pyIter_enum he h
def iEnumT (K : PySem.W.Frag) (ta : TA) : TI := fun σ H R => ta σ H fun vs H1 => ∃ a xs, vs = [.ref a] ∧ SqT K H1 a xs ∧ R (IteT K a) H1
theorem pi_enumT {X : Cx} {e : Expr} {ta : TA} {p pos tpos : Pos} {elts : List Expr} {kk : Nat} (hg : Gl X "enumerate") (hm : X.mg "enumerate" = none) (ha : PA X [e] ta) (hs : starEach [e] X.env = [(false, eval e X.env)] := by rfl) :
    PI X (.Tuple elts kk tpos) (.Call (.Name "enumerate" p) [e] [] pos) (iEnumT X.K ta) := by
  refine ⟨fun pins s σ H R I h => ?_⟩
  refine Call_ (ld_blt I hg hm boot_enumerate (PyProof.Rows.callWith_type1 (thn (ha.run pos pins s σ H _ I h) fun us s1 ⟨vs, H1, I1, r1, q1⟩ => ?_) hs rfl))
  obtain ⟨a, xs, ex, hq, q⟩ := q1
  subst ex
  cases r1 with
  | cons r rr =>
    cases rr
    cases r
    obtain ⟨its, rv, p', hz⟩ := I1.tuple hq
    have p2 : s1.heap.IsTuple a its.toArray := p'
    have hal : a < s1.heap.objs.size := by obtain ⟨_, q, _⟩ := p2; exact Heap.lt_size q
    refine call_enumT p2 fun h' he hit hsz hk => wpAny_pyIter_enum he ?_
    have I2 : Inv X pins σ H1 { s1 with heap := h' } := I1.kept (t' := s1.toks) hk
    refine ⟨s1.heap.objs.size + 1, [s1.heap.objs.size + 1, s1.heap.objs.size], _, _, H1, rfl, I2, turn_enumT a (s1.heap.objs.size + 1) s1.heap.objs.size (Nat.ne_of_lt hal) (Nat.ne_of_lt (Nat.lt_succ_of_lt hal)), ⟨⟨.none, he⟩, hit, Nat.succ_ne_self _⟩, fun b hb => ?_, q⟩
    have e' : b = s1.heap.objs.size + 1 ∨ b = s1.heap.objs.size := by simpa using hb
    have hle : s1.heap.objs.size ≤ b := by
      rcases e' with z | z
      · rw [z]; exact Nat.le_add_right _ _
      · rw [z]; exact Nat.le_refl _
    exact I1.fpOk hle (I1.hok.fresh hle)
def iEnumS (K : PySem.W.Frag) (ta : TA) : TI := fun σ H R => iEnum K ta σ H R ∨ iEnumT K ta σ H R
theorem pi_enumS {X : Cx} {e : Expr} {ta : TA} {p pos tpos : Pos} {elts : List Expr} {kk : Nat} (hg : Gl X "enumerate") (hm : X.mg "enumerate" = none) (ha : PA X [e] ta) (hs : starEach [e] X.env = [(false, eval e X.env)] := by rfl) :
    PI X (.Tuple elts kk tpos) (.Call (.Name "enumerate" p) [e] [] pos) (iEnumS X.K ta) := by
  refine ⟨fun pins s σ H R I h => ?_⟩
  rcases h with h | h
  · exact (pi_enum hg hm ha hs).run pins s σ H R I h
  · exact (pi_enumT hg hm ha hs).run pins s σ H R I h
section
variable {K : PySem.W.Frag} {a : Addr} {xs : List V}
theorem walk_enumT : Walk (IteT K a) xs.length (fun H => SqT K H a xs) (YPair (fun i => some (.int (i : Nat))) (fun i => xs[i]?)) := by
  refine ⟨fun i _ hi q => ⟨xs, xs[i], q, by simp [hi]⟩, fun _ q => ⟨xs, q, Nat.le_refl _⟩, fun i H v H' _ q y => ?_⟩
  obtain ⟨T, x, h1, h2, h3, h4⟩ := y
  exact ⟨T, .int (i : Nat), x, h1, h2, h3, rfl, h4 xs q⟩
/-- for i, x in enumerate(xs) with two names as the target: the pair is a new tuple that nobody keeps -/
theorem for_enum {tb : TS} {D : Ends} {σ : L2.St} {H : Hp} {p q : Nat} {ta : TA} (ea : ∀ R : List V → Hp → Prop, R [.ref a] H → ta σ H R) (hx : SqL K H a xs ∨ SqT K H a xs) (Pv : Nat → L2.St → Hp → Prop) (h0 : Pv 0 σ H)
    (hG : ∀ i σ H', i ≤ xs.length → Pv i σ H' → Ex H H')
    (hs : ∀ i x σ H' T, xs[i]? = some x → Pv i σ H' → H' T = none → tb { D with nx := Pv (i + 1), ct := Pv (i + 1), bk := D.nx } ((σ.set p (some (.int (i : Int)))).set q (some x)) (upd H' T (.tup [.int (i : Int), x]))) (hd : ∀ σ H, Pv xs.length σ H → D.nx σ H) :
    tFor (iEnumS K ta) (gTup K 2 (gCons (gName p) (gCons (gName q) gNil))) tb D σ H := by
  have turn : ∀ i v σ' H1 H2, i < xs.length → Pv i σ' H1 → YPair (fun i => some (V.int (i : Nat))) (fun i => xs[i]?) i H1 v H2 → gTup K 2 (gCons (gName p) (gCons (gName q) gNil)) v σ' H2 fun σ2 H3 => tb { D with nx := Pv (i + 1), ct := Pv (i + 1), bk := D.nx } σ2 H3 := by
    rintro i v σ' H1 H2 hi pv ⟨T, u, x, rfl, hT, rfl, h1, h2⟩
    cases Option.some.inj h1
    exact ⟨T, _, rfl, SqT.of upd_same, rfl, _, _, rfl, _, _, rfl, rfl, hs i x σ' H1 T h2 pv hT⟩
  rcases hx with hx | hx
  · exact .inl (ea _ ⟨a, xs, rfl, hx, for_it walk_enum Pv h0 (fun i σ' H' hi pv => ex_l (hG i σ' H' hi pv) hx) turn hd⟩)
  · exact .inr (ea _ ⟨a, xs, rfl, hx, for_it walk_enumT Pv h0 (fun i σ' H' hi pv => ex_t (hG i σ' H' hi pv) hx) turn hd⟩)
end
end L2.U


set_option Elab.async false
set_option linter.all false
set_option maxRecDepth 100000
set_option maxHeartbeats 4000000
namespace L2.U
open PySem PySem.Spec PyProof.Rows Evl
/-! ### min of a list or a tuple of ints -/
section
variable {prog : Program} {w : World} {A : Around} {E : Value → Shared → Prop} {s : Shared} {l : Addr} {xs : Array (Int × Tok)}
theorem iter_intTup {Q : Value → Shared → Prop} (hl : s.heap.IsTuple l (intItems xs))
    (h : ∀ s₂ : Shared, s₂ = { s with heap := s.heap.push { cls := .type "tuple_iterator", data := .fields #[.ref l, .int 0 0] } } →
      (s₂.heap.IsTupleIter s.heap.objs.size l 0 ∧ s₂.heap.IsTuple l (intItems xs)) → (∀ b ∈ [s.heap.objs.size, l], b < s₂.heap.objs.size) → l ≠ s.heap.objs.size → Q (.ref s.heap.objs.size) s₂) :
    wpAny (model prog w) A (pyIter (.ref l)) Q E s := by
  have hlt : l < s.heap.objs.size := by obtain ⟨_, e, _⟩ := hl; exact Heap.lt_size e
  refine wpAny_pyIter_tuple hl (h _ rfl ⟨⟨_, Heap.get?_push_size _ rfl, rfl, rfl⟩, hl.push _⟩ (fun b hb => ?_) (Nat.ne_of_lt hlt))
  show b < (s.heap.push _).objs.size
  rw [Heap.size_push]
  rcases List.mem_cons.mp hb with rfl | hb
  · exact Nat.lt_succ_self _
  · rcases List.mem_cons.mp hb with rfl | hb
    · exact Nat.lt_succ_of_lt hlt
    · cases hb
theorem old_keptT {h' : Heap} (hk : ∀ b o, b ∉ [s.heap.objs.size] → (s.heap.push { cls := .type "tuple_iterator", data := .fields #[.ref l, .int 0 0] }).get? b = some o → h'.get? b = some o) :
    ∀ b o, s.heap.get? b = some o → h'.get? b = some o := fun b o e => by
  refine hk b o (fun hm => ?_) (Heap.get?_push_of_some _ e)
  rcases List.mem_cons.mp hm with e1 | hm
  · exact absurd (e1 ▸ Heap.lt_size e) (Nat.lt_irrefl _)
  · cases hm
theorem min_intTup {Q : Value → Shared → Prop} (hh : A.handled = none) (hl : s.heap.IsTuple l (intItems xs)) (hne : 0 < xs.size)
    (h : ∀ v h' tk, (intItems xs)[argBest (fun i j => decide (numAt xs i < numAt xs j)) (xs.size - 1)]? = some v → (∀ b o, s.heap.get? b = some o → h'.get? b = some o) → Q v { s with heap := h', toks := tk }) :
    wpAny (model prog w) A (call (.builtin "min") [.ref l]) Q E s := by
  refine call_min_walk (iter_intTup hl fun s₂ e st hfp hlI => ?_)
  subst e
  refine ⟨_, _, _, _, _, _, _, rfl, Walks.tuple (A := A.in1) hh _ l hlI (intItems xs), st, hfp, by simpa [intItems] using hne, CmpOf.ints_lt (numAt xs) (fun _ _ => intItems_at), fun v h' tk hP hk => ?_⟩
  exact h v h' tk (by simpa [intItems] using hP) (old_keptT hk)
theorem min_rawT {its : List Value} {ns : List Int} {Q : Value → Shared → Prop} (hh : A.handled = none) (hl : s.heap.IsTuple l its.toArray) (hi : IntsAre its ns) (hne : 0 < ns.length)
    (h : ∀ h' tk M t', (∀ b o, s.heap.get? b = some o → h'.get? b = some o) → M ∈ ns → (∀ a, a ∈ ns → M ≤ a) → Q (.int M t') { s with heap := h', toks := tk }) : wpAny (model prog w) A (call (.builtin "min") [.ref l]) Q E s := by
  obtain ⟨xs, e⟩ := hi.allInts.items
  have hn : numsOf (intItems xs).toList = ns := by rw [← e]; exact hi.numsOf
  rw [nums_intItems] at hn
  subst hn
  rw [e] at hl
  have hsz : 0 < xs.size := by simpa using hne
  refine min_intTup hh hl hsz fun v h' tk hv hk => ?_
  obtain ⟨t, rfl⟩ := intItems_at hv
  obtain ⟨h1, h2⟩ := argBest_lt (numAt xs) (xs.size - 1)
  refine h h' tk _ t hk ?_ fun a ha => ?_
  · rw [numAt_eq]; exact PySem.getD_mem (by rw [List.length_map, Array.length_toList]; omega)
  · obtain ⟨j, hj, rfl⟩ := mem_getD ha
    rw [List.length_map, Array.length_toList] at hj
    rw [← numAt_eq]; exact h2 j (by omega)
end
section
variable {X : Cx}
def rMinS (K : PySem.W.Frag) : List V → Hp → VK → Prop := fun vs H Q => ∃ (a : Addr) (ns : List Int), vs = [V.ref a] ∧ (SqL K H a (ns.map V.int) ∨ SqT K H a (ns.map V.int)) ∧ 0 < ns.length ∧ ∀ m, m ∈ ns → (∀ y, y ∈ ns → m ≤ y) → Q (.int m) H
theorem cr_minS (hc : X.calm = true) : CallR X (.builtin "min") (rMinS X.K) := by
  intro pins s σ H vs us Q I r h
  obtain ⟨a, ns, e, hs | hs, hne, q⟩ := h
  · exact cr_min hc pins s σ H vs us Q I r ⟨a, ns, e, hs, hne, q⟩
  · subst e
    obtain ⟨its, rv, hl, _⟩ := I.tuple hs
    rw [Vals.ref1 r]
    exact min_rawT (I.ok.hd hc) (show s.heap.IsTuple a its.toArray from hl) rv.ints hne fun h' tk m t' hk h1 h2 => ⟨.int _, H, I.kept hk, ⟨_, rfl⟩, q m h1 h2⟩
theorem kminS (K : PySem.W.Frag) (hc : X.calm = true) (h : X.K = K := by rfl) : CallR X (.builtin "min") (rMinS K) := by subst h; exact cr_minS hc
end
end L2.U


set_option Elab.async false
set_option linter.all false
set_option maxRecDepth 100000
set_option maxHeartbeats 4000000
namespace HT
open PySem PySem.Spec PyProof.Rows
variable {prog : Program} {w : World} {A : Around} {E : Value → Shared → Prop} {s : Shared}
theorem adjust_rev (n : Nat) : Builtin.Slice.sliceAdjust none none (-1) (n : Int) = ((n : Int) - 1, -1) := by
  unfold Builtin.Slice.sliceAdjust
  simp
theorem places_rev (n : Nat) : Builtin.Slice.slicePlaces ((n : Int) - 1) (-1) (-1) = n := by
  unfold Builtin.Slice.slicePlaces
  have h1 : ¬ ((-1 : Int) > 0) := by omega
  simp only [h1, if_false]
  rw [show (- (-1 : Int)) = 1 from rfl]
  simp only [Int.ediv_one]
  split <;> omega
theorem fm_congr {α β : Type} {f g : α → Option β} : ∀ (l : List α), (∀ a ∈ l, f a = g a) → l.filterMap f = l.filterMap g
  | [], _ => rfl
  | a :: r, h => by
    rw [List.filterMap_cons, List.filterMap_cons, h a (by simp), fm_congr r fun b hb => h b (List.mem_cons_of_mem _ hb)]
theorem pick_rev (xs : Array Value) : ((List.range xs.size).filterMap fun (m : Nat) => xs[(((xs.size : Nat) : Int) - 1 + (m : Int) * (-1)).toNat]?).toArray = xs.toList.reverse.toArray := by
  congr 1
  apply List.ext_getElem?
  intro i
  have e : (List.range xs.size).filterMap (fun (m : Nat) => xs[(((xs.size : Nat) : Int) - 1 + (m : Int) * (-1)).toNat]?) = (List.range xs.size).filterMap (fun m => xs.toList.reverse[m]?) := by
    apply fm_congr
    intro m hm
    have hm' := List.mem_range.mp hm
    rw [List.getElem?_reverse (by rw [Array.length_toList]; exact hm'), Array.length_toList, Array.getElem?_toList]
    congr 1
    omega
  rw [e]
  have all : (List.range xs.toList.reverse.length).filterMap (fun m => xs.toList.reverse[m]?) = xs.toList.reverse := by
    generalize xs.toList.reverse = l
    induction l with
    | nil => rfl
    | cons a r ih =>
      rw [List.length_cons, List.range_succ_eq_map, List.filterMap_cons]
      show a :: _ = _
      rw [List.filterMap_map]
      exact congrArg (a :: ·) ih
  rw [List.length_reverse, Array.length_toList] at all
  rw [all]
theorem sliceApplied_rev {sl : Addr} {vs : Value} {n : Nat} {Q : Int × Int × Nat → Shared → Prop} (hs : s.heap.IsSliceOf sl .none .none vs) (ps : IsPart vs (some (-1)))
    (h : Q ((n : Int) - 1, -1, n) s) : wpAny (model prog w) A (Builtin.Slice.sliceApplied (.ref sl) (pure (n : Int))) Q E s := by
  obtain ⟨os, hos, hcs, hds⟩ := id hs
  unfold Builtin.Slice.sliceApplied Builtin.Slice.sliceFields
  refine wpAny_bind (wpAny_bind (wpAny_field hos hds (x := .none) rfl (wpAny_bind (wpAny_field hos hds (x := .none) rfl (wpAny_bind (wpAny_field hos hds (x := vs) rfl (wpAny_pure ?_)))))))
  refine wpAny_bind (slicePart_ ps ?_)
  show wpAny _ _ (if ((-1 : Int) == 0) = true then _ else _) _ _ s
  rw [if_neg (by decide)]
  refine wpAny_bind (slicePart_none (wpAny_bind (slicePart_none (wpAny_bind (wpAny_pure ?_)))))
  show wpAny _ _ (match Builtin.Slice.sliceAdjust none none (-1) (n : Int) with | (lo, hi) => pure (lo, (-1 : Int), Builtin.Slice.slicePlaces lo hi (-1))) _ _ s
  rw [adjust_rev]
  show wpAny _ _ (pure ((n : Int) - 1, (-1 : Int), Builtin.Slice.slicePlaces ((n : Int) - 1) (-1) (-1))) _ _ s
  rw [places_rev]
  exact wpAny_pure h
theorem getItem_tuple_rev {t sl : Addr} {items : Array Value} {vs : Value} {Q : Value → Shared → Prop} (ht : IsTup s.heap t items) (hs : s.heap.IsSliceOf sl .none .none vs) (ps : IsPart vs (some (-1)))
    (h : Q (.ref s.heap.objs.size) { s with heap := s.heap.push { cls := .type "tuple", data := .seq items.toList.reverse.toArray } })
    (hsz : items.size ≤ sizeLine) : wpAny (model prog w) A (getItem (.ref t) (.ref sl)) Q E s := by
  have htake : sizeOk (.seq items.toList.reverse.toArray) := by
    show items.toList.reverse.toArray.size ≤ sizeLine
    rw [List.size_toArray, List.length_reverse, Array.length_toList]
    exact hsz
  obtain ⟨os, hos, hcs, hds⟩ := id hs
  have hTs : s.TypeIs (.ref sl) "slice" := ⟨os, hos, hcs⟩
  unfold getItem
  try with_reducible refine wpAny_holding ?_
  first | refine wpAny_bind (wpAny_pure ?_) | skip
  refine wpAny_bind (wpAny_sequenceKey ht.typeIs (by decide) ?_)
  refine wpAny_bind (wpAny_callSpecial?_slot (name := Str.ofString "__getitem__") ht.typeIs PyProof.Rows.slot_tuple_getitem
    (wpAny_call_entry PyProof.Rows.slot_tuple_getitem ht.typeIs entry_tuple_getitem ?_ (args_tuple_getitem _ _)))
  show wpAny _ _ (Builtin.Tuple.tupleItemsOf (.ref t) >>= _) _ _ s
  refine wpAny_bind (tupleItemsOf_ ht ?_)
  refine wpAny_bind (wpAny_typeOf hTs ?_)
  rw [if_pos (by decide)]
  refine wpAny_bind (sliceApplied_rev hs ps ?_)
  have hno : ¬ ((((items.size : Nat) : Int) - 1 == 0 && (-1 : Int) == 1 && items.size == items.size) = true) := by
    intro q
    rw [Bool.and_eq_true, Bool.and_eq_true] at q
    exact absurd q.1.2 (by decide)
  show wpAny _ _ (if (((items.size : Nat) : Int) - 1 == 0 && (-1 : Int) == 1 && items.size == items.size) = true then _ else _) _ _ s
  rw [if_neg hno, pick_rev]
  first
    | exact wpAny_bind (m := Builtin.Tuple.tupleExact _) (wpAny_newObj_type (wpAny_pure ⟨_, rfl, wpAny_pure h⟩) htake)
    | exact wpAny_bind (m := Builtin.Tuple.tupleExact _) (wpAny_newObj_type (wpAny_bind (wpAny_pure (wpAny_pure ⟨_, rfl, wpAny_pure h⟩))) htake)
    | exact wpAny_bind (wpAny_bind (m := Builtin.Tuple.tupleExact _) (wpAny_newObj_type (wpAny_pure (wpAny_pure ⟨_, rfl, wpAny_pure h⟩)) htake))
    | exact wpAny_bind (wpAny_bind (m := Builtin.Tuple.tupleExact _) (wpAny_newObj_type (wpAny_pure ⟨_, rfl, wpAny_pure h⟩) htake))
end HT
namespace L2
open PySem PySem.Spec PyProof.Rows
section
variable {X : Cx}
/-- xs[::-1], of a list or a tuple -/
def tRevS (K : PySem.W.Frag) (te : TE) : TE := fun σ H Q => te σ H fun x H1 => ∃ a xs, x = .ref a ∧ ((SqL K H1 a xs ∧ ∀ p, H1 p = none → Q (.ref p) (upd H1 p (.lst xs.reverse))) ∨ (SqT K H1 a xs ∧ ∀ p, H1 p = none → Q (.ref p) (upd H1 p (.tup xs.reverse))))
theorem pe_revS {e : Expr} {te : TE} {k : Nat} {p1 p2 p3 pos : Pos} (he : PE X e te) : PE X (.Subscript e (.Slice none none (some (.UnaryOp .USub (.Constant (.int 1) k p1) p2)) p3) pos) (tRevS X.K te) := by
  refine ⟨fun pins s σ H Q I h => ?_⟩
  refine Subscript_ (thn (he.run pins s σ H _ I h) fun v s1 ⟨x, H1, I1, r1, q1⟩ => ?_)
  obtain ⟨a, xs, ex, hx⟩ := q1
  subst ex
  cases r1
  have hst : PO X (some (.UnaryOp .USub (.Constant (.int 1) k p1) p2)) (tPart (tUn (rU fun i => .int (-i)) (tC (.int 1)))) := po_some (pe_un un_neg pe_int)
  refine wpAny_Slice (thn (po_none.run pins s1 σ H1 (fun o H2 => o = none ∧ H2 = H1) I1 ⟨rfl, rfl⟩) fun vl s2 ⟨l, H2, I2, pl, el, e2⟩ => ?_)
  subst el e2
  refine thn (po_none.run pins s2 σ H2 (fun o H3 => o = none ∧ H3 = H2) I2 ⟨rfl, rfl⟩) fun vu s3 ⟨u, H3, I3, pu, eu, e3⟩ => ?_
  subst eu e3
  refine thn (hst.run pins s3 σ H3 (fun o H4 => o = some (-1) ∧ H4 = H3) I3 ⟨1, rfl, -1, rfl, rfl, rfl⟩) fun vs s4 ⟨o, H4, I4, ps, eo, e4⟩ => ?_
  subst eo e4
  have I5 : Inv X pins σ H4 { s4 with heap := s4.heap.push { cls := .type "slice", data := .fields #[vl, vu, vs] } } := I4.kept (t' := s4.toks) fun b ob q => Heap.get?_push_of_some _ q
  show wpAny (model X.prog X.w) X.A (subscriptTail e (.Slice none none (some (.UnaryOp .USub (.Constant (.int 1) k p1) p2)) p3) (.ref a) (.ref s4.heap.objs.size)) (EP X pins σ Q) X.xe { s4 with heap := s4.heap.push { cls := .type "slice", data := .fields #[vl, vu, vs] } }
  rcases hx with ⟨hx, q⟩ | ⟨hx, q⟩
  · obtain ⟨its, r, ht, hz⟩ := I5.list hx
    have hlen := r.length
    refine tail_any (ops := [.ref a, .ref s4.heap.objs.size]) ht.isList.typeIs (PySem.slot_list_getitem.lookup) ?_ (by with_unfolding_all rfl)
    refine wpAny_getItem_list_slice ht.isList (Heap.IsSliceOf.new _ vl vu vs) pl pu ps (by decide) ?_ (by rw [List.size_toArray]; omega)
    rw [PySem.W.krv_pick]
    refine ⟨.ref _, _, I5.laid (t' := s4.toks) (o := .lst xs.reverse) (fun b ob q => Heap.get?_push_of_some _ q) (Nat.le_refl _) ?_, rfl, q _ (I5.hok.fresh (Nat.le_refl _))⟩
    exact ⟨by rw [List.length_reverse]; exact hz, _, 0, r.reverse, Heap.get?_push_size _ rfl⟩
  · obtain ⟨its, r, ht, hz⟩ := I5.tuple hx
    have hlen := r.length
    cases pl
    cases pu
    refine tail_any (ops := [.ref a, .ref s4.heap.objs.size]) ht.typeIs (PyProof.Rows.slot_tuple_getitem.lookup) ?_ (by with_unfolding_all rfl)
    refine HT.getItem_tuple_rev ht (Heap.IsSliceOf.new _ .none .none vs) ps ?_ (by rw [List.size_toArray]; omega)
    refine ⟨.ref _, _, I5.laid (t' := s4.toks) (o := .tup xs.reverse) (fun b ob q => Heap.get?_push_of_some _ q) (Nat.le_refl _) ?_, rfl, q _ (I5.hok.fresh (Nat.le_refl _))⟩
    exact ⟨by rw [List.length_reverse]; exact hz, _, r.reverse, IsTup.new _ _⟩
end
end L2


set_option Elab.async false
set_option linter.all false
set_option maxRecDepth 100000
set_option maxHeartbeats 4000000
namespace L2.U
open PySem PySem.Spec PyProof.Rows Evl
def top (i : Nat) : Stmt := PySem.Challenge.pw_upforgood_k18_whole_rows_on_wires.main.body.getD i (.Pass ⟨0, 0, 0, 0⟩)
abbrev s_is_integer : Stmt := top 2
theorem sc_is_integer : FnScope ["value"] ["value"] (defScope s_is_integer) := ⟨rfl, rfl, rfl, by decide +kernel, rfl, by decide +kernel, by decide +kernel⟩
abbrev s_is_between : Stmt := top 3
theorem sc_is_between : FnScope ["value", "low", "high"] ["value", "low", "high"] (defScope s_is_between) := ⟨rfl, rfl, rfl, by decide +kernel, rfl, by decide +kernel, by decide +kernel⟩
abbrev s_is_list : Stmt := top 4
theorem sc_is_list : FnScope ["value"] ["value"] (defScope s_is_list) := ⟨rfl, rfl, rfl, by decide +kernel, rfl, by decide +kernel, by decide +kernel⟩
abbrev s_law_cell : Stmt := top 27
theorem sc_law_cell : FnScope ["script", "k"] ["script", "k"] (defScope s_law_cell) := ⟨rfl, rfl, rfl, by decide +kernel, rfl, by decide +kernel, by decide +kernel⟩
abbrev s_law_box : Stmt := top 28
theorem sc_law_box : FnScope ["great"] ["great"] (defScope s_law_box) := ⟨rfl, rfl, rfl, by decide +kernel, rfl, by decide +kernel, by decide +kernel⟩
abbrev s_law_take : Stmt := top 29
theorem sc_law_take : FnScope ["box", "many", "digit", "mixed"] ["box", "many"] (defScope s_law_take) := ⟨rfl, rfl, rfl, by decide +kernel, rfl, by decide +kernel, by decide +kernel⟩
abbrev s_law_same : Stmt := top 30
theorem sc_law_same : FnScope ["told", "due", "k"] ["told", "due"] (defScope s_law_same) := ⟨rfl, rfl, rfl, by decide +kernel, rfl, by decide +kernel, by decide +kernel⟩
structure TA1 (K : PySem.W.Frag) (mg : Str → Option Value) where
  is_integer : DefAt K mg "is_integer" s_is_integer ["value"]
  is_between : DefAt K mg "is_between" s_is_between ["value", "low", "high"]
  is_list : DefAt K mg "is_list" s_is_list ["value"]
  law_cell : DefAt K mg "_law_cell" s_law_cell ["script", "k"]
  law_box : DefAt K mg "_law_box" s_law_box ["great"]
  law_take : DefAt K mg "_law_take" s_law_take ["box", "many"]
  law_same : DefAt K mg "_law_same" s_law_same ["told", "due"]
  z_int : mg "int" = none
  z_bool : mg "bool" = none
  z_str : mg "str" = none
  z_list : mg "list" = none
  z_tuple : mg "tuple" = none
  z_len : mg "len" = none
  z_sum : mg "sum" = none
  z_abs : mg "abs" = none
  z_all : mg "all" = none
  z_range : mg "range" = none
  z_isinstance : mg "isinstance" = none
section
variable {P : Program} {w : World} {K : PySem.W.Frag} {mg : Str → Option Value} {base : Heap}
def isI : V → Bool
  | .int _ => true
  | _ => false
/-- a value of one of the kinds of data -/
def Dat (K : PySem.W.Frag) (H : Hp) (x : V) : Prop := ∃ t, t ∈ ["NoneType", "bool", "int", "str", "list", "tuple", "dict"] ∧ TyX K H x (.type t) ∧ isI x = decide (t = "int")
theorem Dat.int {H : Hp} {i : Int} : Dat K H (.int i) := ⟨"int", by decide, .base (.int i), rfl⟩
theorem Dat.ex {H H' : Hp} {x : V} (e : Ex H H') (h : Dat K H x) : Dat K H' x := by
  obtain ⟨t, ht, ty, hi⟩ := h
  refine ⟨t, ht, ?_, hi⟩
  cases ty with
  | base b =>
    refine .base ?_
    cases b with
    | non => exact .non
    | bl x => exact .bl x
    | int i => exact .int i
    | str z => exact .str z
    | flt z => exact .flt z
    | lst h => exact .lst (e _ _ h)
    | frz h => exact .frz (e _ _ h)
    | tup h => exact .tup (e _ _ h)
    | dK h => exact .dK (e _ _ h)
    | dT h => exact .dT (e _ _ h)
  | byt b => exact .byt b
  | set h => exact .set (e _ _ h)
  | kList a b => exact .kList a b
  | kTuple a b => exact .kTuple a b
  | kDict a b => exact .kDict a b
  | fTuple h => exact .fTuple (e _ _ h)
  | fDict h => exact .fDict (e _ _ h)
def spIsInteger (K : PySem.W.Frag) : Sp := fun vs H Q _ => ∃ x, vs = [x] ∧ Dat K H x ∧ Q (.bl (isI x)) H
theorem ok_is_integer (T : TA1 K mg) : FnOk P w K mg base CX0 1 T.is_integer.a T.is_integer.fd ["value"] (spIsInteger K) := by
  refine T.is_integer.F.ok sc_is_integer (fun vs H Q E h => ?_) (fun cdv A outer s H vs Q E hr h => ?_)
  · obtain ⟨x, rfl, _⟩ := h; rfl
  obtain ⟨x, rfl, ⟨t, ht, ty, hi⟩, q⟩ := h
  refine ⟨_, (pss_one (ps_ret (pe_and (pe_callB (kisi K) (by rfl) T.z_isinstance (by decide +kernel) (pa_cons (pv 0) (pa_cons (pe_bltn (v := .ty "int") rfl T.z_int (by decide +kernel) rfl) pa_nil))) (pe_one (pe_not (pe_callB (kisi K) (by rfl) T.z_isinstance (by decide +kernel) (pa_cons (pv 0) (pa_cons (pe_bltn (v := .ty "bool") rfl T.z_bool (by decide +kernel) rfl) pa_nil)))))))), ?_⟩
  simp only [List.mem_cons, List.not_mem_nil, or_false] at ht
  rcases ht with rfl | rfl | rfl | rfl | rfl | rfl | rfl
  · refine ⟨_, rfl, _, _, _, _, _, rfl, .ty "int", ty, kit_ty (r := false) (by decide +kernel), false, rfl, iteF ?_⟩
    rw [hi] at q; exact q
  · refine ⟨_, rfl, _, _, _, _, _, rfl, .ty "int", ty, kit_ty (r := true) (by decide +kernel), true, rfl, iteT ?_⟩
    refine ⟨_, rfl, _, _, _, _, _, rfl, .ty "bool", ty, kit_ty (r := true) (by decide +kernel), true, rfl, ?_⟩
    rw [hi] at q; exact q
  · refine ⟨_, rfl, _, _, _, _, _, rfl, .ty "int", ty, kit_ty (r := true) (by decide +kernel), true, rfl, iteT ?_⟩
    refine ⟨_, rfl, _, _, _, _, _, rfl, .ty "bool", ty, kit_ty (r := false) (by decide +kernel), false, rfl, ?_⟩
    rw [hi] at q; exact q
  all_goals
    refine ⟨_, rfl, _, _, _, _, _, rfl, .ty "int", ty, kit_ty (r := false) (by decide +kernel), false, rfl, iteF ?_⟩
    rw [hi] at q; exact q
theorem isI_int {x : V} (h : isI x = true) : ∃ i, x = .int i := by
  cases x <;> first | exact ⟨_, rfl⟩ | cases h
def spIsBetween (K : PySem.W.Frag) : Sp := fun vs H Q _ => ∃ (x : V) (lo hi : Int), vs = [x, .int lo, .int hi] ∧ Dat K H x ∧ ∀ b, (∀ i, x = .int i → b = decide (lo ≤ i ∧ i ≤ hi)) → (isI x = false → b = false) → Q (.bl b) H
theorem ok_is_between (T : TA1 K mg) : FnOk P w K mg base CX0 2 T.is_between.a T.is_between.fd ["value", "low", "high"] (spIsBetween K) := by
  refine T.is_between.F.ok sc_is_between (fun vs H Q E h => ?_) (fun cdv A outer s H vs Q E hr h => ?_)
  · obtain ⟨x, lo, hi, rfl, _⟩ := h; rfl
  obtain ⟨x, lo, hi, rfl, hd, q⟩ := h
  refine ⟨_, (pss_one (ps_ret (pe_and (pe_call (ok_is_integer T) (hr.mono (by decide)) rfl T.is_integer.m T.is_integer.F.kp T.is_integer.b .nil pass0 (pa_cons (pv 0) pa_nil)) (pe_one (pe_chain op_le op_le (pv 1) (pv 0) (pv 2)))))), ?_⟩
  refine ⟨_, rfl, _, rfl, hd, isI x, rfl, ?_⟩
  cases hx : isI x with
  | false => exact q false (fun i e => by rw [e] at hx; cases hx) (fun _ => rfl)
  | true =>
    obtain ⟨i, rfl⟩ := isI_int hx
    refine ⟨_, rfl, _, rfl, _, _, rfl, rfl, _, rfl, ite2 (fun c => ?_) (fun c => ?_)⟩
    · refine ⟨_, rfl, _, _, rfl, rfl, q _ (fun j e => ?_) (fun e => by cases e)⟩
      cases e
      have c' := of_decide_eq_true c
      simp [c']
    · refine q _ (fun j e => ?_) (fun e => by cases e)
      cases e
      have c' := of_decide_eq_false (Bool.eq_false_iff.mpr c)
      simp [c']
/-! ### data: what a value holds -/
inductive Rd (K : PySem.W.Frag) (ok : Addr → Prop) (H : Hp) : Nat → V → PyData → Prop
  | non {n} : Rd K ok H n .non .none
  | bl {n} (b : Bool) : Rd K ok H n (.bl b) (.bool b)
  | int {n} (i : Int) : Rd K ok H n (.int i) (.int i)
  | str {n} (z : Str) (h : z.length ≤ 1000) (h2 : PyData.strOk z = true) : Rd K ok H n (.str z) (.str z)
  | lst {n} {a : Addr} {xs : List V} {ds : List PyData} (h : H a = some (.lst xs)) (ha : ok a) (hl : xs.length = ds.length) (hz : xs.length ≤ 900)
      (all : ∀ (i : Nat) (x : V) (d : PyData), xs[i]? = some x → ds[i]? = some d → Rd K ok H n x d) : Rd K ok H (n + 1) (.ref a) (.list ds)
  | tup {n} {a : Addr} {xs : List V} {ds : List PyData} (h : SqT K H a xs) (ha : ok a) (hl : xs.length = ds.length) (hz : xs.length ≤ 900)
      (all : ∀ (i : Nat) (x : V) (d : PyData), xs[i]? = some x → ds[i]? = some d → Rd K ok H n x d) : Rd K ok H (n + 1) (.ref a) (.tuple ds)
def RdL (K : PySem.W.Frag) (ok : Addr → Prop) (H : Hp) (n : Nat) (xs : List V) (ds : List PyData) : Prop :=
  xs.length = ds.length ∧ ∀ (i : Nat) (x : V) (d : PyData), xs[i]? = some x → ds[i]? = some d → Rd K ok H n x d
section
variable {ok : Addr → Prop} {H H' : Hp} {n : Nat} {x y : V} {d : PyData}
theorem Rd.keep (kl : ∀ a xs, ok a → H a = some (.lst xs) → H' a = some (.lst xs)) (kt : ∀ a xs, ok a → SqT K H a xs → SqT K H' a xs) (h : Rd K ok H n x d) : Rd K ok H' n x d := by
  induction h with
  | non => exact .non
  | bl b => exact .bl b
  | int i => exact .int i
  | str z h h2 => exact .str z h h2
  | lst h1 ha hl hz _ ih => exact .lst (kl _ _ ha h1) ha hl hz ih
  | tup h1 ha hl hz _ ih => exact .tup (kt _ _ ha h1) ha hl hz ih
theorem Rd.ex (e : Ex H H') (h : Rd K ok H n x d) : Rd K ok H' n x d := h.keep (fun _ _ _ => e _ _) (fun _ _ _ => ex_t e)
theorem Rd.but {b : Addr} (k : But b H H') (hb : ∀ a, ok a → a ≠ b) (h : Rd K ok H n x d) : Rd K ok H' n x d :=
  h.keep (fun _ _ ha hs => k _ _ (hb _ ha) hs) (fun _ _ ha hs => k.sqt (hb _ ha) hs)
theorem Rd.of {ok' : Addr → Prop} (w : ∀ a, ok a → ok' a) (h : Rd K ok H n x d) : Rd K ok' H n x d := by
  induction h with
  | non => exact .non
  | bl b => exact .bl b
  | int i => exact .int i
  | str z h h2 => exact .str z h h2
  | lst h1 ha hl hz _ ih => exact .lst h1 (w _ ha) hl hz ih
  | tup h1 ha hl hz _ ih => exact .tup h1 (w _ ha) hl hz ih
theorem Rd.succ (h : Rd K ok H n x d) : Rd K ok H (n + 1) x d := by
  induction h with
  | non => exact .non
  | bl b => exact .bl b
  | int i => exact .int i
  | str z h h2 => exact .str z h h2
  | lst h1 ha hl hz _ ih => exact .lst h1 ha hl hz ih
  | tup h1 ha hl hz _ ih => exact .tup h1 ha hl hz ih
theorem Rd.le {m : Nat} (h : Rd K ok H n x d) (l : n ≤ m) : Rd K ok H m x d := by
  induction l with
  | refl => exact h
  | step _ ih => exact ih.succ
theorem RdL.ex {xs : List V} {ds : List PyData} (e : Ex H H') (h : RdL K ok H n xs ds) : RdL K ok H' n xs ds := ⟨h.1, fun i x d hx hd => (h.2 i x d hx hd).ex e⟩
theorem RdL.but {b : Addr} {xs : List V} {ds : List PyData} (k : But b H H') (hb : ∀ a, ok a → a ≠ b) (h : RdL K ok H n xs ds) : RdL K ok H' n xs ds := ⟨h.1, fun i x d hx hd => (h.2 i x d hx hd).but k hb⟩
theorem Rd.sm (h : Rd K ok H n x d) : ∀ {ok' : Addr → Prop} {y : V}, Rd K ok' H n y d → Sm K H n x y := by
  induction h with
  | non => intro ok' y h2; cases h2; exact .non
  | bl b => intro ok' y h2; cases h2; exact .bl b
  | int i => intro ok' y h2; cases h2; exact .int i
  | str z h h3 => intro ok' y h2; cases h2; exact .str z h
  | lst h1 ha hl hz all ih =>
    intro ok' y h2
    cases h2 with
    | lst h1' ha' hl' hz' all' =>
      refine .lst (SqL.of h1) (SqL.of h1') (by omega) (by omega) fun i x y hx hy => ?_
      have hi := (List.getElem?_eq_some_iff.mp hx).1
      exact ih i x _ hx (List.getElem?_eq_getElem (by omega)) (all' i y _ hy (List.getElem?_eq_getElem (by omega)))
  | tup h1 ha hl hz all ih =>
    intro ok' y h2
    cases h2 with
    | tup h1' ha' hl' hz' all' =>
      refine .tup h1 h1' (by omega) (by omega) fun i x y hx hy => ?_
      have hi := (List.getElem?_eq_some_iff.mp hx).1
      exact ih i x _ hx (List.getElem?_eq_getElem (by omega)) (all' i y _ hy (List.getElem?_eq_getElem (by omega)))
theorem dpAll_of {xs : List V} : ∀ {ds : List PyData}, xs.length = ds.length → (∀ (i : Nat) (x : V) (d : PyData), xs[i]? = some x → ds[i]? = some d → Dp K H x d) → DpAll K H xs ds := by
  induction xs with
  | nil => intro ds hl _; cases ds with
    | nil => exact .nil
    | cons d r => cases hl
  | cons x r ih => intro ds hl h; cases ds with
    | nil => cases hl
    | cons d r2 => exact .cons (h 0 x d rfl rfl) (ih (Nat.succ.inj hl) fun i x d hx hd => h (i + 1) x d hx hd)
theorem Rd.dp (h : Rd K ok H n x d) : Dp K H x d := by
  induction h with
  | non => exact .non
  | bl b => exact .bl b
  | int i => exact .int i
  | str z h h2 => exact .str z
  | lst h1 ha hl hz _ ih => exact .lst (SqL.of h1) (dpAll_of hl ih)
  | tup h1 ha hl hz _ ih => exact .tup h1 (dpAll_of hl ih)
theorem layAll_of : ∀ {ds : List PyData} {n : Nat}, (∀ d ∈ ds, d.canLay0 = true ∧ d.depth ≤ n) → PyData.canLayAll0 ds = true ∧ PyData.depthAll ds ≤ n
  | [], n, _ => by simp [PyData.canLayAll0, PyData.depthAll]
  | d :: r, n, h => by
    have h1 := h d (by simp)
    have h2 := layAll_of (ds := r) (n := n) fun z hz => h z (by simp [hz])
    simp only [PyData.canLayAll0, PyData.depthAll, h1.1, h2.1, Bool.and_self, true_and]
    omega
theorem Rd.lay (h : Rd K ok H n x d) : d.canLay0 = true ∧ d.depth ≤ n := by
  induction h with
  | non => simp [PyData.canLay0, PyData.depth]
  | bl b => simp [PyData.canLay0, PyData.depth]
  | int i => simp [PyData.canLay0, PyData.depth]
  | str z h h2 => simp [PyData.canLay0, PyData.depth, h2]
  | @lst n a xs ds h1 ha hl hz all ih =>
    have := layAll_of (ds := ds) (n := n) fun d hd => by
      obtain ⟨i, hi⟩ := List.mem_iff_getElem?.mp hd
      have hlt := (List.getElem?_eq_some_iff.mp hi).1
      exact ih i _ d (List.getElem?_eq_getElem (by omega)) hi
    simp only [PyData.canLay0, PyData.depth, this.1, true_and]
    omega
  | @tup n a xs ds h1 ha hl hz all ih =>
    have := layAll_of (ds := ds) (n := n) fun d hd => by
      obtain ⟨i, hi⟩ := List.mem_iff_getElem?.mp hd
      have hlt := (List.getElem?_eq_some_iff.mp hi).1
      exact ih i _ d (List.getElem?_eq_getElem (by omega)) hi
    simp only [PyData.canLay0, PyData.depth, this.1, true_and]
    omega
theorem Rd.shaped (h : Rd K ok H n x d) (hn : n ≤ 64) : SeqAt.shaped d = true := by
  have := h.lay
  unfold SeqAt.shaped
  rw [this.1, decide_eq_true (by omega)]
  rfl
theorem Rd.dat (h : Rd K ok H n x d) : Dat K H x := by
  cases h with
  | non => exact ⟨"NoneType", by decide, .base .non, rfl⟩
  | bl b => exact ⟨"bool", by decide, .base (.bl b), rfl⟩
  | int i => exact .int
  | str z h h2 => exact ⟨"str", by decide, .base (.str z), rfl⟩
  | lst h1 => exact ⟨"list", by decide, tyL (SqL.of h1), rfl⟩
  | tup h1 => exact ⟨"tuple", by decide, tyT h1, rfl⟩
end
def fromD (lo : Int) : PyData → Bool
  | .int i => decide (lo ≤ i)
  | _ => false
def betwD (lo hi : Int) : PyData → Bool
  | .int i => decide (lo ≤ i ∧ i ≤ hi)
  | _ => false
def isSeq : PyData → Bool
  | .list _ => true
  | .tuple _ => true
  | _ => false
theorem rd_from {ok : Addr → Prop} {H : Hp} {n : Nat} {x : V} {d : PyData} {lo : Int} {b : Bool} (h : Rd K ok H n x d) (h1 : ∀ i, x = .int i → b = decide (lo ≤ i)) (h2 : isI x = false → b = false) : b = fromD lo d := by
  cases h <;> first | exact h1 _ rfl | exact h2 rfl
theorem rd_betw {ok : Addr → Prop} {H : Hp} {n : Nat} {x : V} {d : PyData} {lo hi : Int} {b : Bool} (h : Rd K ok H n x d) (h1 : ∀ i, x = .int i → b = decide (lo ≤ i ∧ i ≤ hi)) (h2 : isI x = false → b = false) : b = betwD lo hi d := by
  cases h <;> first | exact h1 _ rfl | exact h2 rfl
/-- data, or an empty dict -/
def RdA (K : PySem.W.Frag) (ok : Addr → Prop) (H : Hp) (n : Nat) (x : V) (d : PyData) : Prop := Rd K ok H n x d ∨ ∃ a, x = .ref a ∧ d = .dict [] ∧ ok a ∧ H a = some (.dK [])
section
variable {ok : Addr → Prop} {H H' : Hp} {n : Nat} {x : V} {d : PyData}
theorem RdA.rd (h : RdA K ok H n x d) (s : isSeq d = true) : Rd K ok H n x d := by
  rcases h with h | ⟨a, rfl, rfl, _⟩
  · exact h
  · cases s
theorem RdA.ex (e : Ex H H') (h : RdA K ok H n x d) : RdA K ok H' n x d := by
  rcases h with h | ⟨a, h1, h2, h3, h4⟩
  · exact .inl (h.ex e)
  · exact .inr ⟨a, h1, h2, h3, e _ _ h4⟩
theorem RdA.but {b : Addr} (k : But b H H') (hb : ∀ a, ok a → a ≠ b) (h : RdA K ok H n x d) : RdA K ok H' n x d := by
  rcases h with h | ⟨a, h1, h2, h3, h4⟩
  · exact .inl (h.but k hb)
  · exact .inr ⟨a, h1, h2, h3, k _ _ (hb a h3) h4⟩
theorem RdA.of {ok' : Addr → Prop} (w : ∀ a, ok a → ok' a) (h : RdA K ok H n x d) : RdA K ok' H n x d := by
  rcases h with h | ⟨a, h1, h2, h3, h4⟩
  · exact .inl (h.of w)
  · exact .inr ⟨a, h1, h2, w a h3, h4⟩
theorem RdA.dat (h : RdA K ok H n x d) : Dat K H x := by
  rcases h with h | ⟨a, rfl, rfl, _, h4⟩
  · exact h.dat
  · exact ⟨"dict", by decide, .base (.dK h4), rfl⟩
theorem rda_betw {lo hi : Int} {b : Bool} (h : RdA K ok H n x d) (h1 : ∀ i, x = .int i → b = decide (lo ≤ i ∧ i ≤ hi)) (h2 : isI x = false → b = false) : b = betwD lo hi d := by
  rcases h with h | ⟨a, rfl, rfl, _⟩
  · exact rd_betw h h1 h2
  · exact h2 rfl
theorem RdA.sm {ok' : Addr → Prop} {y : V} (h : RdA K ok H n x d) (h2 : RdA K ok' H n y d) : Sm K H (n + 1) x y := by
  rcases h with h | ⟨a, rfl, rfl, _, h4⟩
  · rcases h2 with h2 | ⟨a, rfl, rfl, _⟩
    · exact (h.sm h2).succ
    · cases h
  · rcases h2 with h2 | ⟨c, rfl, _, _, h5⟩
    · cases h2
    · exact .dct h4 h5
end
def spIsList (K : PySem.W.Frag) : Sp := fun vs H Q _ => ∃ x d n ok, vs = [x] ∧ RdA K ok H n x d ∧ ∀ H', Ex H H' → Q (.bl (isSeq d)) H'
theorem ok_is_list (T : TA1 K mg) : FnOk P w K mg base CX0 1 T.is_list.a T.is_list.fd ["value"] (spIsList K) := by
  refine T.is_list.F.ok sc_is_list (fun vs H Q E h => ?_) (fun cdv A outer s H vs Q E hr h => ?_)
  · obtain ⟨x, d, n, ok, rfl, _⟩ := h; rfl
  obtain ⟨x, d, n, ok, rfl, h, q⟩ := h
  refine ⟨_, (pss_one (ps_ret (pe_callB (kisiT K) (by rfl) T.z_isinstance (by decide +kernel) (pa_cons (pv 0) (pa_cons (pe_tup (pa_cons (pe_bltn (v := .ty "list") rfl T.z_list (by decide +kernel) rfl) (pa_cons (pe_bltn (v := .ty "tuple") rfl T.z_tuple (by decide +kernel) rfl) pa_nil))) pa_nil))))), ?_⟩
  refine ⟨_, rfl, (by show 2 ≤ sizeLine; decide), fun p hp => ?_⟩
  have q1 := q _ (Ex.new (o := .tup [.ty "list", .ty "tuple"]) hp)
  rcases h with h | ⟨a, rfl, rfl, _, hd⟩
  case inr =>
    exact ⟨_, p, [.ty "list", .ty "tuple"], _, [.type "list", .type "tuple"], false, rfl, upd_same, .cons (.ty _) (.cons (.ty _) .nil), .base (.dK ((Ex.new hp) _ _ hd)), rfl, q1⟩
  cases h with
  | non => exact ⟨_, p, [.ty "list", .ty "tuple"], _, [.type "list", .type "tuple"], false, rfl, upd_same, .cons (.ty _) (.cons (.ty _) .nil), .base .non, rfl, q1⟩
  | bl b => exact ⟨_, p, [.ty "list", .ty "tuple"], _, [.type "list", .type "tuple"], false, rfl, upd_same, .cons (.ty _) (.cons (.ty _) .nil), .base (.bl b), rfl, q1⟩
  | int i => exact ⟨_, p, [.ty "list", .ty "tuple"], _, [.type "list", .type "tuple"], false, rfl, upd_same, .cons (.ty _) (.cons (.ty _) .nil), .base (.int i), rfl, q1⟩
  | str z _ _ => exact ⟨_, p, [.ty "list", .ty "tuple"], _, [.type "list", .type "tuple"], false, rfl, upd_same, .cons (.ty _) (.cons (.ty _) .nil), .base (.str z), rfl, q1⟩
  | lst h1 => exact ⟨_, p, [.ty "list", .ty "tuple"], _, [.type "list", .type "tuple"], true, rfl, upd_same, .cons (.ty _) (.cons (.ty _) .nil), tyL (SqL.of ((Ex.new hp) _ _ h1)), rfl, q1⟩
  | tup h1 => exact ⟨_, p, [.ty "list", .ty "tuple"], _, [.type "list", .type "tuple"], true, rfl, upd_same, .cons (.ty _) (.cons (.ty _) .nil), tyT (ex_t (Ex.new hp) h1), rfl, q1⟩
theorem at_get {xs : List V} {k : Int} (h0 : 0 ≤ k) (h : k < (xs.length : Int)) : ∃ v, atI xs k = some v ∧ xs[k.toNat]? = some v := by
  have hk : k.toNat < xs.length := by omega
  refine ⟨xs[k.toNat], ?_, List.getElem?_eq_getElem hk⟩
  exact at_of (by omega) (List.getElem?_eq_getElem hk)
theorem ints_get {ns : List Int} {i : Nat} {v : V} (h : (ns.map V.int)[i]? = some v) : ∃ z, ns[i]? = some z ∧ v = .int z := by
  rw [List.getElem?_map] at h
  cases e : ns[i]? with
  | none => rw [e] at h; cases h
  | some z => rw [e] at h; exact ⟨z, rfl, (Option.some.inj h).symm⟩
theorem cutV_ints (ns : List Int) (lo hi : Option Int) : ∃ ms : List Int, cutV (ns.map V.int) lo hi = ms.map V.int := by
  refine ⟨(ns.drop (HT.sIx (ns.map V.int).length 0 lo)).take (HT.sIx (ns.map V.int).length (ns.map V.int).length hi - HT.sIx (ns.map V.int).length 0 lo), ?_⟩
  unfold cutV
  rw [List.map_take, List.map_drop]
theorem ok_law_cell (T : TA1 K mg) : FnOk P w K mg base CX0 1 T.law_cell.a T.law_cell.fd ["script", "k"] (spCell K) := by
  refine T.law_cell.F.ok sc_law_cell (fun vs H Q E h => ?_) (fun cdv A outer s H vs Q E hr h => ?_)
  · obtain ⟨a, ns, k, rfl, _⟩ := h; rfl
  obtain ⟨a, ns, k, rfl, hS, h0, h1, q⟩ := h
  refine ⟨_, (pss_one (ps_ret (pe_ifExp (pt_cmpR op_lt (pv 1) (pe_callB (klen K) (by rfl) T.z_len (by decide +kernel) (pa_cons (pv 0) pa_nil)) (nomark _)) (pe_ix (kixl K) (pv 0) (pv 1) (fun _ _ => rfl)) (pe_op op_add (pe_op op_mul pe_int (pv 1)) (pe_op op_mod (pe_callTy call_int1 (by rfl) T.z_int (by decide +kernel) (pa_cons (pe_callB (ksum K rfl) (by rfl) T.z_sum (by decide +kernel) (pa_cons (pe_slice (kslL K) (pv 0) po_none (po_some pe_int)) pa_nil)) pa_nil)) pe_int))))), ?_⟩
  refine ⟨_, rfl, _, rfl, _, _, rfl, .inl ⟨_, hS, rfl⟩, _, _, rfl, rfl, _, rfl, ite2 (fun c => ?_) (fun c => ?_)⟩
  · have c' := of_decide_eq_true c
    obtain ⟨v, hv, hg⟩ := at_get h0 c'
    obtain ⟨z, _, rfl⟩ := ints_get hg
    exact ⟨_, rfl, _, rfl, _, _, _, _, rfl, rfl, hS, hv, q _ _ (Ex.refl _)⟩
  · refine ⟨_, rfl, _, _, rfl, rfl, .inl ⟨by decide, by decide⟩, _, rfl, _, rfl, _, _, rfl, hS, fun p hp => ?_⟩
    obtain ⟨ms, em⟩ := cutV_ints ns none (some 1)
    rw [em]
    refine ⟨p, ms, rfl, .inl (SqL.of upd_same), .inl ⟨_, rfl, _, _, rfl, rfl, (show (0 : Int) < 1000033 by decide), _, _, rfl, rfl, q _ _ (Ex.new hp)⟩⟩
theorem ok_law_box (T : TA1 K mg) : FnOk P w K mg base CX0 1 T.law_box.a T.law_box.fd ["great"] spBox := by
  refine T.law_box.F.ok sc_law_box (fun vs H Q E h => ?_) (fun cdv A outer s H vs Q E hr h => ?_)
  · obtain ⟨g, rfl, _⟩ := h; rfl
  obtain ⟨g, rfl, q⟩ := h
  refine ⟨_, (pss_one (ps_ret (pe_lst (pa_cons (pe_callB call_abs (by rfl) T.z_abs (by decide +kernel) (pa_cons (pv 0) pa_nil)) (pa_cons (pe_cmpR op_ge (pe_callB call_abs (by rfl) T.z_abs (by decide +kernel) (pa_cons (pv 0) pa_nil)) (pe_op op_pow pe_int pe_int) (nomark _)) (pa_cons (pe_op op_mod (pe_callTy call_int1 (by rfl) T.z_int (by decide +kernel) (pa_cons (pe_callB call_abs (by rfl) T.z_abs (by decide +kernel) (pa_cons (pv 0) pa_nil)) pa_nil)) pe_int) (pa_cons pe_int pa_nil))))))), ?_⟩
  refine ⟨_, rfl, _, rfl, _, rfl, _, rfl, _, _, rfl, rfl, ⟨by decide, by decide, by decide⟩, _, _, rfl, rfl, _, rfl, _, rfl, .inl ⟨_, rfl, _, _, rfl, rfl, (show (0 : Int) < 2147483629 by decide), (by show 4 ≤ sizeLine; decide), fun p hp => ?_⟩⟩
  refine q p _ hp (Ex.new hp) ⟨_, _, _, _, upd_same, ?_, ?_, ?_, by decide, by decide⟩
  · split <;> omega
  · omega
  · omega
theorem fmod_in {a m : Int} (h : 0 < m) : 0 ≤ a % m ∧ a % m < m := by
  exact ⟨Int.emod_nonneg _ (by omega), Int.emod_lt_of_pos _ h⟩
theorem ok_law_take (T : TA1 K mg) : FnOk P w K mg base CX0 1 T.law_take.a T.law_take.fd ["box", "many"] spTake := by
  refine T.law_take.F.ok sc_law_take (fun vs H Q E h => ?_) (fun cdv A outer s H vs Q E hr h => ?_)
  · obtain ⟨b, m, n, rfl, _⟩ := h; rfl
  obtain ⟨b, m, n, rfl, m0, m1, ⟨d, sd, c, f, hb, d0, s0, s1, c0, c1⟩, q⟩ := h
  have hL := SqL.of (K := K) hb
  refine ⟨_, (pss_cut (ps_if (PW.pt (pw_and (pt_val (pe_ix (kixl K) (pv 0) pe_int (fun _ _ => rfl))) (pw_and1 (pt_cmpR op_gt (pe_ix (kixl K) (pv 0) pe_int (fun _ _ => rfl)) pe_int (nomark _))))) (pss_cons (ps_set (i := 2) sc_law_take.nd rfl (Or.inl rfl) (pe_op op_mod (pe_callTy call_int1 (by rfl) T.z_int (by decide +kernel) (pa_cons (pe_ix (kixl K) (pv 0) pe_int (fun _ _ => rfl)) pa_nil)) (pv 1)))
    (pss_cons (ps_asg (pe_op op_fdiv (pe_ix (kixl K) (pv 0) pe_int (fun _ _ => rfl)) (pv 1)) (pg_sub (pv 0) pe_int set_list))
    (pss_one (ps_ret (pv 2))))) pss_nil)
    (pss_cons (ps_asg (pe_op op_add (pe_ix (kixl K) (pv 0) pe_int (fun _ _ => rfl)) pe_int) (pg_sub (pv 0) pe_int set_list))
    (pss_cons (ps_set (i := 3) sc_law_take.nd rfl (Or.inl rfl) (pe_op op_mod (pe_callTy call_int1 (by rfl) T.z_int (by decide +kernel) (pa_cons (pe_op op_pow (pe_op op_add (pe_op op_add (pe_ix (kixl K) (pv 0) pe_int (fun _ _ => rfl)) (pe_op op_mul pe_int (pe_ix (kixl K) (pv 0) pe_int (fun _ _ => rfl)))) pe_int) pe_int) pa_nil)) pe_int))
    (pss_one (ps_ret (pe_op op_mod (pe_callTy call_int1 (by rfl) T.z_int (by decide +kernel) (pa_cons (pe_op op_fdiv (pe_op op_mod (pe_callTy call_int1 (by rfl) T.z_int (by decide +kernel) (pa_cons (pe_op op_pow (pe_op op_add (pe_op op_mul (pv 3) pe_int) (pe_op op_mul pe_int (pe_ix (kixl K) (pv 0) pe_int (fun _ _ => rfl)))) pe_int) pa_nil)) pe_int) pe_int) pa_nil)) (pv 1))))))), ?_⟩
  have mres : ∀ x : Int, 0 ≤ x % m ∧ x % m < m := fun x => fmod_in m0
  have fm : ∀ {a k : Int}, 0 ≤ a → 0 < k → 0 ≤ a % k ∧ a % k < k := fun _ h => fmod_in h
  refine ⟨fun σ' H' => σ' = [some (.ref b), some (.int m), none, none] ∧ H' = H, ?_, ?_⟩
  · refine ⟨_, rfl, _, _, _, _, rfl, rfl, hL, rfl, f, rfl, ?_⟩
    cases f with
    | false => exact ⟨rfl, rfl⟩
    | true =>
      refine ⟨_, rfl, _, _, _, _, rfl, rfl, hL, rfl, _, _, rfl, rfl, _, rfl, ite2 (fun c => ?_) (fun _ => ⟨rfl, rfl⟩)⟩
      refine ⟨_, rfl, _, _, _, _, rfl, rfl, hL, rfl, .inl ⟨_, rfl, _, rfl, _, _, rfl, rfl, m0, ?_⟩⟩
      refine ⟨_, rfl, _, _, _, _, rfl, rfl, hL, rfl, _, rfl, _, _, rfl, rfl, ⟨by omega, by omega⟩, ?_⟩
      refine ⟨_, rfl, b, _, 0, 0, rfl, rfl, hb, rfl, ?_⟩
      refine ⟨_, rfl, q _ _ (mres _).1 (mres _).2 ⟨_, _, _, _, upd_same, ?_, s0, s1, c0, by omega⟩ But.upd⟩
      exact Int.ediv_nonneg d0 (by omega)
  · rintro σ' H' ⟨rfl, rfl⟩
    refine ⟨_, rfl, _, _, _, _, rfl, rfl, hL, rfl, _, _, rfl, rfl, ?_⟩
    refine ⟨_, rfl, b, _, 3, 3, rfl, rfl, hb, rfl, ?_⟩
    have hb2 : upd H' b (.lst [.int d, .bl f, .int sd, .int (c + 1)]) b = some (.lst [.int d, .bl f, .int sd, .int (c + 1)]) := upd_same
    have hL2 := SqL.of (K := K) hb2
    have r1 := @fmod_in ((sd + 15485863 * (c + 1) + 179424673) ^ (5 : Int).toNat) 2147483647 (by decide)
    refine ⟨_, rfl, _, _, _, _, rfl, rfl, hL2, rfl, ?_⟩
    refine ⟨_, rfl, _, _, _, _, rfl, rfl, hL2, rfl, _, _, rfl, rfl, .inl ⟨by decide, by decide⟩, _, _, rfl, rfl, _, _, rfl, rfl, ?_⟩
    refine ⟨_, _, rfl, rfl, ⟨by decide, by decide, by omega⟩, .inl ⟨_, rfl, _, _, rfl, rfl, (show (0 : Int) < 2147483647 by decide), ?_⟩⟩
    refine ⟨_, rfl, _, _, rfl, rfl, .inr ⟨by decide, by decide⟩, ?_⟩
    refine ⟨_, rfl, _, _, _, _, rfl, rfl, hL2, rfl, _, _, rfl, rfl, .inl ⟨by decide, by decide⟩, _, _, rfl, rfl, ?_⟩
    refine ⟨_, _, rfl, rfl, ⟨by decide, by decide, by omega⟩, .inl ⟨_, rfl, _, _, rfl, rfl, (show (0 : Int) < 2147483587 by decide), ?_⟩⟩
    refine ⟨_, _, rfl, rfl, ⟨by decide, by decide⟩, .inl ⟨_, rfl, _, rfl, _, _, rfl, rfl, m0, ?_⟩⟩
    exact q _ _ (mres _).1 (mres _).2 ⟨_, _, _, _, hb2, d0, s0, s1, by omega, by omega⟩ But.upd
section
variable {X : Cx}
def rLenA (K : PySem.W.Frag) : List V → Hp → VK → Prop := fun xs H Q => rLen K xs H Q ∨ ∃ a kvs, xs = [V.ref a] ∧ H a = some (.dK kvs) ∧ Q (.int (kvs.length : Nat)) H
theorem klenA (K : PySem.W.Frag) (h : X.K = K := by rfl) : CallR X (.builtin "len") (rLenA K) := by
  subst h
  intro pins s σ H vs us Q I r h
  rcases h with h | h
  · exact call_len pins s σ H vs us Q I r h
  · exact call_lenD pins s σ H vs us Q I r h
end
/-! ### the law's own sameness -/
theorem none_left {sp : Sp} {f : Addr} {fd : FuncData} {ps : List Str} (no : ∀ vs H Q E, ¬ sp vs H Q E) : FnOk P w K mg base CX0 0 f fd ps sp :=
  ⟨fun vs H Q E h => absurd h (no vs H Q E), fun A outer s H args us vs Q E _ _ _ _ h => absurd h (no vs H Q E)⟩
theorem isi_at {H : Hp} {x : V} {t u : String} {b : Bool} {Q : VK} (ty : TyX K H x (.type t)) (h : kitB t u = some b) (q : Q (.bl b) H) : rIsi K [x, .ty u] H Q :=
  ⟨x, .ty u, _, _, b, rfl, .ty u, ty, kit_ty h, q⟩
def spS (K : PySem.W.Frag) : Nat → Sp
  | 0 => fun _ _ _ _ => False
  | n + 1 => spSame K n
theorem no_given {n : Nat} {v : Nat → V} : given n (fun _ => false) v = [] := by
  unfold given
  rw [List.filter_eq_nil_iff.mpr (by intro a _; decide)]
  rfl
theorem eq_empty {ta : TE} {σ : L2.St} {H : Hp} {xs : List V} (hx : xs = []) (h : EvL ta σ H xs) : Ev (tOp (rEqD K) ta (tLst tNil)) σ H (.bl true) := by
  subst hx
  exact ev_opLL h (el_lst ea_nil (Nat.zero_le _)) fun p q H1 hp hq _ => rv_val fun H2 e2 Q k =>
    ⟨.list [], .list [], .lst (SqL.of (e2 _ _ hp)) .nil, .lst (SqL.of (e2 _ _ hq)) .nil, rfl, rfl, k⟩
theorem same_step (T : TA1 K mg) (n : Nat) (ih : FnOk P w K mg base CX0 n T.law_same.a T.law_same.fd ["told", "due"] (spS K n)) :
    FnOk P w K mg base CX0 (n + 1) T.law_same.a T.law_same.fd ["told", "due"] (spS K (n + 1)) := by
  refine T.law_same.F.ok sc_law_same (fun vs H Q E h => ?_) (fun cdv A outer s H vs Q E hr h => ?_)
  · obtain ⟨x, y, rfl, _⟩ := h; rfl
  obtain ⟨x, y, rfl, hS, q⟩ := h
  refine ⟨_, (pss_cons (ps_if (PW.pt (pw_or (pt_cmpR op_isN (pv 1) pe_non (nomark _)) (pw_or1 (pt_val (pe_callB (kisi K) (by rfl) T.z_isinstance (by decide +kernel) (pa_cons (pv 1) (pa_cons (pe_bltn (v := .ty "bool") rfl T.z_bool (by decide +kernel) rfl) pa_nil))))))) (pss_one (ps_ret (pe_ifExp (pt_cmpR op_isN (pv 1) pe_non (nomark _)) (pe_cmpR op_isN (pv 0) pe_non (nomark _)) (pe_and (pe_callB (kisi K) (by rfl) T.z_isinstance (by decide +kernel) (pa_cons (pv 0) (pa_cons (pe_bltn (v := .ty "bool") rfl T.z_bool (by decide +kernel) rfl) pa_nil))) (pe_one (pe_cmpR op_eq (pe_cmpR op_is_bl (pv 0) pe_bl (nomark _)) (pe_cmpR op_is_bl (pv 1) pe_bl (nomark _)) (nomark _))))))) pss_nil)
    (pss_cons (ps_if (pt_val (pe_callB (kisi K) (by rfl) T.z_isinstance (by decide +kernel) (pa_cons (pv 1) (pa_cons (pe_bltn (v := .ty "int") rfl T.z_int (by decide +kernel) rfl) pa_nil)))) (pss_one (ps_ret (pe_and (pe_callB (kisi K) (by rfl) T.z_isinstance (by decide +kernel) (pa_cons (pv 0) (pa_cons (pe_bltn (v := .ty "int") rfl T.z_int (by decide +kernel) rfl) pa_nil))) (pe_and (pe_not (pe_callB (kisi K) (by rfl) T.z_isinstance (by decide +kernel) (pa_cons (pv 0) (pa_cons (pe_bltn (v := .ty "bool") rfl T.z_bool (by decide +kernel) rfl) pa_nil)))) (pe_one (pe_cmpR op_eq (pe_op op_sub (pe_callTy call_int1 (by rfl) T.z_int (by decide +kernel) (pa_cons (pv 0) pa_nil)) (pv 1)) pe_int (nomark _))))))) pss_nil)
    (pss_cons (ps_if (pt_val (pe_callB (kisi K) (by rfl) T.z_isinstance (by decide +kernel) (pa_cons (pv 1) (pa_cons (pe_bltn (v := .ty "str") rfl T.z_str (by decide +kernel) rfl) pa_nil)))) (pss_one (ps_ret (pe_and (pe_callB (kisi K) (by rfl) T.z_isinstance (by decide +kernel) (pa_cons (pv 0) (pa_cons (pe_bltn (v := .ty "str") rfl T.z_str (by decide +kernel) rfl) pa_nil))) (pe_and (pe_cmpR op_eq (pe_callB (klen K) (by rfl) T.z_len (by decide +kernel) (pa_cons (pv 0) pa_nil)) (pe_callB (klen K) (by rfl) T.z_len (by decide +kernel) (pa_cons (pv 1) pa_nil)) (nomark _)) (pe_one (pe_cmpR (keqD K hr.units) (pe_lc (own := [("k", 2)]) (g := gName 2) (by rfl) sc_law_same.nd (pi_range1 rfl T.z_range (pa_cons (pe_callB (klen K) (by rfl) T.z_len (by decide +kernel) (pa_cons (pv 1) pa_nil)) pa_nil)) (blkOk_by (own := [("k", 2)]) (N := ["told", "due", "k"]) (sc := defScope s_law_same) (by decide +kernel)) (fun _ _ _ _ _ => (pg_name (i := 2) sc_law_same.nd rfl (Or.inl rfl))) (fun _ _ _ _ _ => (pts_one (pt_cmpR op_ne (pe_slice sl_str (pv 0) (po_some (pv 2)) (po_some (pe_op op_add (pv 2) pe_int))) (pe_ix (kix K) (pv 1) (pv 2) (fun _ _ => rfl)) (nomark _)))) (fun _ _ _ _ _ => (pv 2))) (pe_lst pa_nil) (nomark _))))))) pss_nil)
    (pss_cons (ps_if (PW.pt (pw_or (pt_cmpR op_ne (pe_callB (kisi K) (by rfl) T.z_isinstance (by decide +kernel) (pa_cons (pv 0) (pa_cons (pe_bltn (v := .ty "list") rfl T.z_list (by decide +kernel) rfl) pa_nil))) (pe_callB (kisi K) (by rfl) T.z_isinstance (by decide +kernel) (pa_cons (pv 1) (pa_cons (pe_bltn (v := .ty "list") rfl T.z_list (by decide +kernel) rfl) pa_nil))) (nomark _)) (pw_or1 (pt_cmpR op_ne (pe_callB (kisi K) (by rfl) T.z_isinstance (by decide +kernel) (pa_cons (pv 0) (pa_cons (pe_bltn (v := .ty "tuple") rfl T.z_tuple (by decide +kernel) rfl) pa_nil))) (pe_callB (kisi K) (by rfl) T.z_isinstance (by decide +kernel) (pa_cons (pv 1) (pa_cons (pe_bltn (v := .ty "tuple") rfl T.z_tuple (by decide +kernel) rfl) pa_nil))) (nomark _))))) (pss_one (ps_ret pe_bl)) pss_nil)
    (pss_one (ps_ret (pe_and (pe_cmpR op_eq (pe_callB (klenA K) (by rfl) T.z_len (by decide +kernel) (pa_cons (pv 0) pa_nil)) (pe_callB (klenA K) (by rfl) T.z_len (by decide +kernel) (pa_cons (pv 1) pa_nil)) (nomark _)) (pe_one (pe_cmpR (keqD K hr.units) (pe_lc (own := [("k", 2)]) (g := gName 2) (by rfl) sc_law_same.nd (pi_range1 rfl T.z_range (pa_cons (pe_callB (klenA K) (by rfl) T.z_len (by decide +kernel) (pa_cons (pv 1) pa_nil)) pa_nil)) (blkOk_by (own := [("k", 2)]) (N := ["told", "due", "k"]) (sc := defScope s_law_same) (by decide +kernel)) (fun _ _ _ _ _ => (pg_name (i := 2) sc_law_same.nd rfl (Or.inl rfl))) (fun _ _ _ _ _ => (pts_one (pt_not (pt_val (pe_call (ih) hr rfl T.law_same.m T.law_same.F.kp T.law_same.b .nil pass0 (pa_cons (pe_ix (kix K) (pv 0) (pv 2) (fun _ _ => rfl)) (pa_cons (pe_ix (kix K) (pv 1) (pv 2) (fun _ _ => rfl)) pa_nil))))))) (fun _ _ _ _ _ => (pv 2))) (pe_lst pa_nil) (nomark _)))))))))), ?_⟩
  cases hS with
  | non => exact ⟨_, rfl, rfl, _, rfl, iteT (iteT ⟨_, rfl, rfl, _, rfl, iteT ⟨_, rfl, rfl, q _ (Ex.refl _)⟩⟩)⟩
  | bl b =>
    refine ⟨_, rfl, rfl, _, rfl, iteF ⟨_, rfl, _, _, _, _, true, rfl, .ty _, (.base (.bl b)), kit_ty (by decide +kernel), ⟨_, rfl, iteT ⟨_, rfl, rfl, _, rfl, iteF ?_⟩⟩⟩⟩
    refine ⟨_, rfl, _, _, _, _, true, rfl, .ty _, (.base (.bl b)), kit_ty (by decide +kernel), ⟨_, rfl, iteT ⟨_, rfl, _, _, rfl, rfl, _, rfl, _, _, rfl, rfl, rfl, ?_⟩⟩⟩
    rw [decide_eq_true (rfl : V.bl (decide (b = true)) = V.bl (decide (b = true)))]
    exact q _ (Ex.refl _)
  | int i =>
    refine ⟨_, rfl, rfl, _, rfl, iteF ⟨_, rfl, _, _, _, _, false, rfl, .ty _, (.base (.int i)), kit_ty (by decide +kernel), ⟨_, rfl, iteF ?_⟩⟩⟩
    refine ⟨_, rfl, _, _, _, _, true, rfl, .ty _, (.base (.int i)), kit_ty (by decide +kernel), ⟨_, rfl, iteT ?_⟩⟩
    refine ⟨_, rfl, _, _, _, _, true, rfl, .ty _, (.base (.int i)), kit_ty (by decide +kernel), ⟨_, rfl, iteT ?_⟩⟩
    refine ⟨_, rfl, _, _, _, _, false, rfl, .ty _, (.base (.int i)), kit_ty (by decide +kernel), ⟨_, rfl, _, rfl, iteT ?_⟩⟩
    refine ⟨_, rfl, .inl ⟨_, rfl, _, rfl, _, _, rfl, rfl, rfl, ?_⟩⟩
    show Q (V.bl (decide (V.int (i - i) = V.int 0))) H
    rw [Int.sub_self]
    exact q _ (Ex.refl _)
  | str z hz =>
    have hz' : z.length ≤ sizeLine := Nat.le_trans hz (by decide)
    refine ⟨_, rfl, rfl, _, rfl, iteF ⟨_, rfl, _, _, _, _, false, rfl, .ty _, (.base (.str z)), kit_ty (by decide +kernel), ⟨_, rfl, iteF ?_⟩⟩⟩
    refine ⟨_, rfl, _, _, _, _, false, rfl, .ty _, (.base (.str z)), kit_ty (by decide +kernel), ⟨_, rfl, iteF ?_⟩⟩
    refine ⟨_, rfl, _, _, _, _, true, rfl, .ty _, (.base (.str z)), kit_ty (by decide +kernel), ⟨_, rfl, iteT ?_⟩⟩
    refine ⟨_, rfl, _, _, _, _, true, rfl, .ty _, (.base (.str z)), kit_ty (by decide +kernel), ⟨_, rfl, iteT ?_⟩⟩
    refine ⟨_, rfl, _, z.length, rfl, ⟨hz', rfl⟩, _, rfl, _, z.length, rfl, ⟨hz', rfl⟩, rfl, _, rfl, ?_⟩
    rw [if_pos (decide_eq_true rfl)]
    refine eq_empty (no_given (n := (z.length : Int).toNat) (v := fun _ => V.non)) ?_ H (Ex.refl _) Q (fun H2 e2 => q H2 e2)
    refine el_lcR1 (fun _ => false) (fun _ => V.non) ?_ ⟨by omega, by omega⟩ (fun _ => rfl) ?_ (fun _ _ _ _ hf => nomatch hf)
    · exact fun H1 e Q' k => ⟨_, rfl, _, z.length, rfl, ⟨hz', rfl⟩, k H1 (Ex.refl _)⟩
    · intro i H1 e hi
      have hz2 : i < z.cps.toList.length := by
        have e2 : z.cps.toList.length = z.length := Array.length_toList
        omega
      have hat : atI z.cps.toList (i : Int) = some z.cps.toList[i] := atI_nat (List.getElem?_eq_getElem hz2)
      have hc := cut_one (List.getElem?_eq_getElem hz2)
      intro H2 e2 Q2 k2
      refine ⟨_, rfl, _, rfl, _, rfl, _, rfl, _, _, rfl, rfl, _, rfl, z, rfl, hz', _, rfl, _, rfl, .inr (.inr ⟨z, _, _, rfl, rfl, hz', hat, rfl, _, rfl, ?_⟩)⟩
      rw [hc, decide_eq_true rfl]
      exact k2 H2 (Ex.refl _)
  | @lst n a b xs ys h1 h2 hl hl1 all =>
    refine ⟨_, rfl, rfl, _, rfl, iteF ⟨_, rfl, _, _, _, _, false, rfl, .ty _, (tyL h2), kit_ty (by decide +kernel), ⟨_, rfl, iteF ?_⟩⟩⟩
    refine ⟨_, rfl, _, _, _, _, false, rfl, .ty _, (tyL h2), kit_ty (by decide +kernel), ⟨_, rfl, iteF ?_⟩⟩
    refine ⟨_, rfl, _, _, _, _, false, rfl, .ty _, (tyL h2), kit_ty (by decide +kernel), ⟨_, rfl, iteF ?_⟩⟩
    refine ⟨_, rfl, _, _, _, _, true, rfl, .ty _, (tyL h1), kit_ty (by decide +kernel), ⟨_, rfl, _, _, _, _, true, rfl, .ty _, (tyL h2), kit_ty (by decide +kernel), ⟨rfl, _, rfl, iteF ?_⟩⟩⟩
    refine ⟨_, rfl, _, _, _, _, false, rfl, .ty _, (tyL h1), kit_ty (by decide +kernel), ⟨_, rfl, _, _, _, _, false, rfl, .ty _, (tyL h2), kit_ty (by decide +kernel), ⟨rfl, _, rfl, iteF ?_⟩⟩⟩
    refine ⟨_, rfl, .inl ⟨_, xs.length, rfl, .inl ⟨_, h1, rfl⟩, _, rfl, .inl ⟨_, ys.length, rfl, .inl ⟨_, h2, rfl⟩, rfl, _, rfl, ?_⟩⟩⟩
    rw [if_pos (decide_eq_true (by rw [hl]))]
    refine eq_empty (no_given (n := (ys.length : Int).toNat) (v := fun _ => V.non)) ?_ H (Ex.refl _) Q (fun H2 e2 => q H2 e2)
    refine el_lcR1 (fun _ => false) (fun _ => V.non) ?_ ⟨by omega, by omega⟩ (fun _ => rfl) ?_ (fun _ _ _ _ hf => nomatch hf)
    · exact fun H1 e Q' k => ⟨_, rfl, .inl ⟨_, ys.length, rfl, .inl ⟨_, ex_l e h2, rfl⟩, k H1 (Ex.refl _)⟩⟩
    · intro i H1 e hi H2 e2 Q2 k2
      have hy : ys[i]? = some ys[i] := List.getElem?_eq_getElem (by omega)
      have hx : xs[i]? = some xs[i] := List.getElem?_eq_getElem (by omega)
      refine ⟨_, rfl, _, rfl, .inl ⟨_, _, _, _, rfl, rfl, ex_l (e.trans e2) h1, atI_nat hx, _, rfl, _, rfl, .inl ⟨_, _, _, _, rfl, rfl, ex_l (e.trans e2) h2, atI_nat hy, ?_⟩⟩⟩
      exact ⟨_, _, rfl, (all i _ _ hx hy).ex (e.trans e2), fun H3 e3 => ⟨true, rfl, k2 H3 e3⟩⟩
  | @tup n a b xs ys h1 h2 hl hl1 all =>
    refine ⟨_, rfl, rfl, _, rfl, iteF ⟨_, rfl, _, _, _, _, false, rfl, .ty _, (tyT h2), kit_ty (by decide +kernel), ⟨_, rfl, iteF ?_⟩⟩⟩
    refine ⟨_, rfl, _, _, _, _, false, rfl, .ty _, (tyT h2), kit_ty (by decide +kernel), ⟨_, rfl, iteF ?_⟩⟩
    refine ⟨_, rfl, _, _, _, _, false, rfl, .ty _, (tyT h2), kit_ty (by decide +kernel), ⟨_, rfl, iteF ?_⟩⟩
    refine ⟨_, rfl, _, _, _, _, false, rfl, .ty _, (tyT h1), kit_ty (by decide +kernel), ⟨_, rfl, _, _, _, _, false, rfl, .ty _, (tyT h2), kit_ty (by decide +kernel), ⟨rfl, _, rfl, iteF ?_⟩⟩⟩
    refine ⟨_, rfl, _, _, _, _, true, rfl, .ty _, (tyT h1), kit_ty (by decide +kernel), ⟨_, rfl, _, _, _, _, true, rfl, .ty _, (tyT h2), kit_ty (by decide +kernel), ⟨rfl, _, rfl, iteF ?_⟩⟩⟩
    refine ⟨_, rfl, .inl ⟨_, xs.length, rfl, .inr ⟨_, h1, rfl⟩, _, rfl, .inl ⟨_, ys.length, rfl, .inr ⟨_, h2, rfl⟩, rfl, _, rfl, ?_⟩⟩⟩
    rw [if_pos (decide_eq_true (by rw [hl]))]
    refine eq_empty (no_given (n := (ys.length : Int).toNat) (v := fun _ => V.non)) ?_ H (Ex.refl _) Q (fun H2 e2 => q H2 e2)
    refine el_lcR1 (fun _ => false) (fun _ => V.non) ?_ ⟨by omega, by omega⟩ (fun _ => rfl) ?_ (fun _ _ _ _ hf => nomatch hf)
    · exact fun H1 e Q' k => ⟨_, rfl, .inl ⟨_, ys.length, rfl, .inr ⟨_, ex_t e h2, rfl⟩, k H1 (Ex.refl _)⟩⟩
    · intro i H1 e hi H2 e2 Q2 k2
      have hy : ys[i]? = some ys[i] := List.getElem?_eq_getElem (by omega)
      have hx : xs[i]? = some xs[i] := List.getElem?_eq_getElem (by omega)
      refine ⟨_, rfl, _, rfl, .inr (.inl ⟨_, _, _, _, rfl, rfl, ex_t (e.trans e2) h1, atI_nat hx, _, rfl, _, rfl, .inr (.inl ⟨_, _, _, _, rfl, rfl, ex_t (e.trans e2) h2, atI_nat hy, ?_⟩)⟩)⟩
      exact ⟨_, _, rfl, (all i _ _ hx hy).ex (e.trans e2), fun H3 e3 => ⟨true, rfl, k2 H3 e3⟩⟩
  | @dct n a b h1 h2 =>
    have t1 : TyX K H (.ref a) (.type "dict") := .base (.dK h1)
    have t2 : TyX K H (.ref b) (.type "dict") := .base (.dK h2)
    refine ⟨_, rfl, rfl, _, rfl, iteF ⟨_, rfl, _, _, _, _, false, rfl, .ty _, t2, kit_ty (by decide +kernel), ⟨_, rfl, iteF ?_⟩⟩⟩
    refine ⟨_, rfl, _, _, _, _, false, rfl, .ty _, t2, kit_ty (by decide +kernel), ⟨_, rfl, iteF ?_⟩⟩
    refine ⟨_, rfl, _, _, _, _, false, rfl, .ty _, t2, kit_ty (by decide +kernel), ⟨_, rfl, iteF ?_⟩⟩
    refine ⟨_, rfl, _, _, _, _, false, rfl, .ty _, t1, kit_ty (by decide +kernel), ⟨_, rfl, _, _, _, _, false, rfl, .ty _, t2, kit_ty (by decide +kernel), ⟨rfl, _, rfl, iteF ?_⟩⟩⟩
    refine ⟨_, rfl, _, _, _, _, false, rfl, .ty _, t1, kit_ty (by decide +kernel), ⟨_, rfl, _, _, _, _, false, rfl, .ty _, t2, kit_ty (by decide +kernel), ⟨rfl, _, rfl, iteF ?_⟩⟩⟩
    refine ⟨_, rfl, .inr ⟨a, [], rfl, h1, _, rfl, .inr ⟨b, [], rfl, h2, rfl, _, rfl, ?_⟩⟩⟩
    rw [if_pos (decide_eq_true rfl)]
    refine eq_empty (no_given (n := (0 : Int).toNat) (v := fun _ => V.non)) ?_ H (Ex.refl _) Q (fun H2 e2 => q H2 e2)
    refine el_lcR1 (n := 0) (fun _ => false) (fun _ => V.non) ?_ ⟨by omega, by omega⟩ (fun _ => rfl) ?_ (fun _ _ _ _ hf => nomatch hf)
    · exact fun H1 e Q' k => ⟨_, rfl, .inr ⟨b, [], rfl, e _ _ h2, k H1 (Ex.refl _)⟩⟩
    · intro i H1 e hi
      omega
theorem ok_same (T : TA1 K mg) : ∀ n, FnOk P w K mg base CX0 n T.law_same.a T.law_same.fd ["told", "due"] (spS K n)
  | 0 => none_left fun _ _ _ _ h => h
  | n + 1 => same_step T n (ok_same T n)
theorem ok_law_same (T : TA1 K mg) : FnOk P w K mg base CX0 9 T.law_same.a T.law_same.fd ["told", "due"] (spSame K 8) := ok_same T 9
end
end L2.U


set_option Elab.async false
set_option linter.all false
set_option maxRecDepth 100000
set_option maxHeartbeats 4000000
namespace L2.U
open PySem PySem.Spec PyProof.Rows Evl


abbrev s_are_between : Stmt := top 5
theorem sc_are_between : FnScope ["values", "low", "high", "value"] ["values", "low", "high"] (defScope s_are_between) := ⟨rfl, rfl, rfl, by decide +kernel, rfl, by decide +kernel, by decide +kernel⟩
abbrev s_is_row : Stmt := top 13
theorem sc_is_row : FnScope ["value"] ["value"] (defScope s_is_row) := ⟨rfl, rfl, rfl, by decide +kernel, rfl, by decide +kernel, by decide +kernel⟩
abbrev s_can_raise : Stmt := top 16
theorem sc_can_raise : FnScope ["row", "wires"] ["row", "wires"] (defScope s_can_raise) := ⟨rfl, rfl, rfl, by decide +kernel, rfl, by decide +kernel, by decide +kernel⟩
abbrev s_raise_plan : Stmt := top 17
theorem sc_raise_plan : FnScope ["row", "wires", "told", "rounds", "left", "number", "rest"] ["row", "wires"] (defScope s_raise_plan) := ⟨rfl, rfl, rfl, by decide +kernel, rfl, by decide +kernel, by decide +kernel⟩
abbrev s_leasts : Stmt := top 18
theorem sc_leasts : FnScope ["row", "told", "found", "number"] ["row"] (defScope s_leasts) := ⟨rfl, rfl, rfl, by decide +kernel, rfl, by decide +kernel, by decide +kernel⟩
abbrev s_least : Stmt := top 19
theorem sc_least : FnScope ["number", "need", "told", "wires", "by_rest", "rest"] ["number", "need", "told"] (defScope s_least) := ⟨rfl, rfl, rfl, by decide +kernel, rfl, by decide +kernel, by decide +kernel⟩
abbrev s_most_rest : Stmt := top 20
theorem sc_most_rest : FnScope ["number", "by_rest", "rest"] ["number", "by_rest"] (defScope s_most_rest) := ⟨rfl, rfl, rfl, by decide +kernel, rfl, by decide +kernel, by decide +kernel⟩
abbrev s_most_told : Stmt := top 21
theorem sc_most_told : FnScope ["most", "told", "wires", "rest"] ["most"] (defScope s_most_told) := ⟨rfl, rfl, rfl, by decide +kernel, rfl, by decide +kernel, by decide +kernel⟩
abbrev s_best : Stmt := top 22
theorem sc_best : FnScope ["wires", "rest", "told", "used", "best", "size", "number", "sizes"] ["wires", "rest", "told"] (defScope s_best) := ⟨rfl, rfl, rfl, by decide +kernel, rfl, by decide +kernel, by decide +kernel⟩
abbrev s_check_row_and_wires : Stmt := top 23
theorem sc_check_row_and_wires : FnScope ["row", "wires"] ["row", "wires"] (defScope s_check_row_and_wires) := ⟨rfl, rfl, rfl, by decide +kernel, rfl, by decide +kernel, by decide +kernel⟩
abbrev s_check_row : Stmt := top 24
theorem sc_check_row : FnScope ["row"] ["row"] (defScope s_check_row) := ⟨rfl, rfl, rfl, by decide +kernel, rfl, by decide +kernel, by decide +kernel⟩
abbrev s_check_wires : Stmt := top 25
theorem sc_check_wires : FnScope ["wires"] ["wires"] (defScope s_check_wires) := ⟨rfl, rfl, rfl, by decide +kernel, rfl, by decide +kernel, by decide +kernel⟩
abbrev s_law_choose : Stmt := top 31
theorem sc_law_choose : FnScope ["many", "few", "found", "k"] ["many", "few"] (defScope s_law_choose) := ⟨rfl, rfl, rfl, by decide +kernel, rfl, by decide +kernel, by decide +kernel⟩
abbrev s_law_raised : Stmt := top 32
theorem sc_law_raised : FnScope ["most", "found", "k", "row", "left", "best", "size"] ["most"] (defScope s_law_raised) := ⟨rfl, rfl, rfl, by decide +kernel, rfl, by decide +kernel, by decide +kernel⟩
abbrev s_law_wire_tables : Stmt := top 33
theorem sc_law_wire_tables : FnScope ["row", "raised", "tables", "number", "here", "k", "ways", "left"] ["row", "raised"] (defScope s_law_wire_tables) := ⟨rfl, rfl, rfl, by decide +kernel, rfl, by decide +kernel, by decide +kernel⟩
abbrev s_law_size_lists : Stmt := top 34
theorem sc_law_size_lists : FnScope ["k", "found", "grown", "turn", "longer", "one", "size"] ["k"] (defScope s_law_size_lists) := ⟨rfl, rfl, rfl, by decide +kernel, rfl, by decide +kernel, by decide +kernel⟩
abbrev s_law_listed : Stmt := top 35
theorem sc_law_listed : FnScope ["row", "k", "sizes", "left", "reached", "size"] ["row", "k"] (defScope s_law_listed) := ⟨rfl, rfl, rfl, by decide +kernel, rfl, by decide +kernel, by decide +kernel⟩
abbrev s_law_row : Stmt := top 36
theorem sc_law_row : FnScope ["box", "raised", "many", "wires", "row", "k", "thrifty", "turn", "way", "most", "left", "number"] ["box", "raised", "many", "wires"] (defScope s_law_row) := ⟨rfl, rfl, rfl, by decide +kernel, rfl, by decide +kernel, by decide +kernel⟩
abbrev s_law_full : Stmt := top 37
theorem sc_law_full : FnScope ["box", "raised", "wires", "row", "k", "many", "turn", "left"] ["box", "raised", "wires"] (defScope s_law_full) := ⟨rfl, rfl, rfl, by decide +kernel, rfl, by decide +kernel, by decide +kernel⟩
abbrev s_law_told : Stmt := top 38
theorem sc_law_told : FnScope ["row", "wires", "named", "passed", "told"] ["row", "wires", "named"] (defScope s_law_told) := ⟨rfl, rfl, rfl, by decide +kernel, rfl, by decide +kernel, by decide +kernel⟩
abbrev s_law_fixed_right : Stmt := top 39
theorem sc_law_fixed_right : FnScope ["pick", "menu", "row", "wires", "due"] ["pick"] (defScope s_law_fixed_right) := ⟨rfl, rfl, rfl, by decide +kernel, rfl, by decide +kernel, by decide +kernel⟩
abbrev s_law_small_right : Stmt := top 40
theorem sc_law_small_right : FnScope ["box", "row", "turn", "wires", "named"] ["box", "row"] (defScope s_law_small_right) := ⟨rfl, rfl, rfl, by decide +kernel, rfl, by decide +kernel, by decide +kernel⟩
abbrev s_law_leasts_right : Stmt := top 41
theorem sc_law_leasts_right : FnScope ["row", "due", "named", "turn", "passed", "told"] ["row", "due", "named"] (defScope s_law_leasts_right) := ⟨rfl, rfl, rfl, by decide +kernel, rfl, by decide +kernel, by decide +kernel⟩
abbrev s_law_rests_right : Stmt := top 42
theorem sc_law_rests_right : FnScope ["box", "row", "raised", "tables", "named", "due", "at", "table", "enough", "place", "edge", "wires", "k"] ["box", "row", "raised"] (defScope s_law_rests_right) := ⟨rfl, rfl, rfl, by decide +kernel, rfl, by decide +kernel, by decide +kernel⟩
abbrev s_law : Stmt := top 43
theorem sc_law : FnScope ["script", "k", "box", "great", "spoil", "pick", "more", "size", "most", "many", "raised", "row", "full", "at", "other"] ["script"] (defScope s_law) := ⟨rfl, rfl, rfl, by decide +kernel, rfl, by decide +kernel, by decide +kernel⟩
abbrev s_init_InvalidRow : Stmt := inClass (top 8) 0
theorem sc_init_InvalidRow : FnScope ["self", "given"] ["self", "given"] (defScope s_init_InvalidRow) := ⟨rfl, rfl, rfl, by decide +kernel, rfl, by decide +kernel, by decide +kernel⟩
abbrev s_init_InvalidWires : Stmt := inClass (top 9) 0
theorem sc_init_InvalidWires : FnScope ["self", "given"] ["self", "given"] (defScope s_init_InvalidWires) := ⟨rfl, rfl, rfl, by decide +kernel, rfl, by decide +kernel, by decide +kernel⟩
structure TK (K : PySem.W.Frag) (mg : Str → Option Value) extends TA1 K mg where
  are_between : DefAt K mg "are_between" s_are_between ["values", "low", "high"]
  is_row : DefAt K mg "is_row" s_is_row ["value"]
  can_raise : DefAt K mg "can_raise" s_can_raise ["row", "wires"]
  raise_plan : DefAt K mg "raise_plan" s_raise_plan ["row", "wires"]
  leasts : DefAt K mg "leasts" s_leasts ["row"]
  least : DefAt K mg "_least" s_least ["number", "need", "told"]
  most_rest : DefAt K mg "most_rest" s_most_rest ["number", "by_rest"]
  most_told : DefAt K mg "most_told" s_most_told ["most"]
  best : DefAt K mg "_best" s_best ["wires", "rest", "told"]
  check_row_and_wires : DefAt K mg "check_row_and_wires" s_check_row_and_wires ["row", "wires"]
  check_row : DefAt K mg "_check_row" s_check_row ["row"]
  check_wires : DefAt K mg "_check_wires" s_check_wires ["wires"]
  law_choose : DefAt K mg "_law_choose" s_law_choose ["many", "few"]
  law_raised : DefAt K mg "_law_raised" s_law_raised ["most"]
  law_wire_tables : DefAt K mg "_law_wire_tables" s_law_wire_tables ["row", "raised"]
  law_size_lists : DefAt K mg "_law_size_lists" s_law_size_lists ["k"]
  law_listed : DefAt K mg "_law_listed" s_law_listed ["row", "k"]
  law_row : DefAt K mg "_law_row" s_law_row ["box", "raised", "many", "wires"]
  law_full : DefAt K mg "_law_full" s_law_full ["box", "raised", "wires"]
  law_told : DefAt K mg "_law_told" s_law_told ["row", "wires", "named"]
  law_fixed_right : DefAt K mg "_law_fixed_right" s_law_fixed_right ["pick"]
  law_small_right : DefAt K mg "_law_small_right" s_law_small_right ["box", "row"]
  law_leasts_right : DefAt K mg "_law_leasts_right" s_law_leasts_right ["row", "due", "named"]
  law_rests_right : DefAt K mg "_law_rests_right" s_law_rests_right ["box", "row", "raised"]
  law : DefAt K mg "law" s_law ["script"]
  InvalidRow : ErrAt K mg "InvalidRow" "InvalidRow.__init__" s_init_InvalidRow "given"
  InvalidWires : ErrAt K mg "InvalidWires" "InvalidWires.__init__" s_init_InvalidWires "given"
  t_MOST_NUMBERS : Tok
  c_MOST_NUMBERS : mg "MOST_NUMBERS" = some (.int 16 t_MOST_NUMBERS)
  t_GREATEST : Tok
  c_GREATEST : mg "GREATEST" = some (.int 100000000000000000000000000000000000000000000000000 t_GREATEST)
  t_MOST_WIRES : Tok
  c_MOST_WIRES : mg "MOST_WIRES" = some (.int 24 t_MOST_WIRES)
  c_comb : mg "comb" = some (.builtin "math.comb")
  z_max : mg "max" = none
  z_min : mg "min" = none
  z_enumerate : mg "enumerate" = none
  kb_can_raise_wires_row : KBinds K can_raise.fd ["row", "wires"] ["wires", "row"] kw21 kw21
  kb_leasts_row : KBinds K leasts.fd ["row"] ["row"] kw1 kw1
  TalkError_C : Addr
  TalkError_gC : mg "TalkError" = some (.ref TalkError_C)
section
variable {P : Program} {w : World} {K : PySem.W.Frag} {mg : Str → Option Value} {base : Heap}
section
variable {X : Cx}
theorem kmax (K : PySem.W.Frag) (hc : X.calm = true) (h : X.K = K := by rfl) : CallR X (.builtin "max") (rMax K) := by subst h; exact cr_max hc
theorem kmin (K : PySem.W.Frag) (hc : X.calm = true) (h : X.K = K := by rfl) : CallR X (.builtin "min") (rMin K) := by subst h; exact cr_min hc
end
theorem two_le : 2 ≤ sizeLine := by decide
theorem ok_init_InvalidRow (T : ErrAt K mg "InvalidRow" "InvalidRow.__init__" s_init_InvalidRow "given") : FnOk P w K mg base CX0 1 T.fI T.fd ["self", "given"] (spInit T.C "given") := by
  refine T.F.ok sc_init_InvalidRow (fun vs H Q E h => ?_) (fun cdv A outer s H vs Q E hr h => ?_)
  · obtain ⟨a, y, rfl, _⟩ := h; rfl
  obtain ⟨a, y, rfl, ha, q⟩ := h
  exact ⟨_, pss_one (ps_ost (pv 0) (pv 1)), _, rfl, _, rfl, a, T.C, rfl, T.T, T.nf, .inl ⟨ha, fun d hd nd => q d hd nd⟩⟩
theorem ok_init_InvalidWires (T : ErrAt K mg "InvalidWires" "InvalidWires.__init__" s_init_InvalidWires "given") : FnOk P w K mg base CX0 1 T.fI T.fd ["self", "given"] (spInit T.C "given") := by
  refine T.F.ok sc_init_InvalidWires (fun vs H Q E h => ?_) (fun cdv A outer s H vs Q E hr h => ?_)
  · obtain ⟨a, y, rfl, _⟩ := h; rfl
  obtain ⟨a, y, rfl, ha, q⟩ := h
  exact ⟨_, pss_one (ps_ost (pv 0) (pv 1)), _, rfl, _, rfl, a, T.C, rfl, T.T, T.nf, .inl ⟨ha, fun d hd nd => q d hd nd⟩⟩
/-- a check of any data: it lets what is right, else raises the error of C with the very value -/
def spChkD (K : PySem.W.Frag) (C : Addr) (okD : PyData → Bool) : Sp := fun vs H Q E => ∃ x d n ok, vs = [x] ∧ Rd K ok H n x d ∧ (okD d = true → ∀ H', Ex H H' → Q .non H') ∧
  (okD d = false → ∀ e H', Ex H H' → H' e = some (.xd [("given", x)]) → E (.ref C) (some e) H')
theorem betw_int {lo hi : Int} {ok : Addr → Prop} {H : Hp} {n : Nat} {x : V} {d : PyData} (h : Rd K ok H n x d) (c : betwD lo hi d = true) : ∃ i, x = .int i ∧ d = .int i ∧ lo ≤ i ∧ i ≤ hi := by
  cases h with
  | int i => exact ⟨i, rfl, rfl, of_decide_eq_true c⟩
  | non => cases c
  | bl _ => cases c
  | str _ _ _ => cases c
  | lst _ _ _ _ _ => cases c
  | tup _ _ _ _ _ => cases c

theorem rep_one {n : Nat} {x : V} : (List.replicate n [x]).flatten = List.replicate n x := by
  induction n with
  | zero => rfl
  | succ n ih => rw [List.replicate_succ, List.flatten_cons, ih, List.replicate_succ]; rfl
theorem given_all {n : Nat} {v : Nat → V} : given n (fun _ => true) v = (List.range n).map v := by
  unfold given
  rw [List.filter_eq_self.mpr (by intro a _; rfl)]
theorem el_lcT {σ : L2.St} {H : Hp} {a : Addr} {xs : List V} {tl te : TE} {t : TT} {j : Nat} {vs : List Nat} (f : Nat → Bool) (v : Nat → V) (h : Ev tl σ H (.ref a)) (hx : SqT K H a xs) (hz : xs.length ≤ 40000)
    (hw : ∀ x, wipe ((wipe σ vs).set j (some x)) vs = wipe σ vs) (ht : ∀ (i : Nat) (x : V) H1, Ex H H1 → xs[i]? = some x → EvT t ((wipe σ vs).set j (some x)) H1 (f i))
    (he : ∀ (i : Nat) (x : V) H1, Ex H H1 → xs[i]? = some x → f i = true → Ev te ((wipe σ vs).set j (some x)) H1 (v i)) : EvL (tLc (iTup K tl) (gName j) t te vs) σ H (given xs.length f v) := by
  intro H0 e Q q
  refine h H0 e _ fun H1 e1 => ?_
  have e01 := e.trans e1
  refine ⟨a, rfl, ⟨xs, ex_t e01 hx⟩, fun Dl hD => lc_tup (xs := xs) (Cw H1 f v Dl) ⟨hD, Ex.new hD, upd_same⟩ (fun i H' _ p => ex_t (e01.trans p.2.1) hx) ?_ ?_⟩
  · intro i x H' hi p
    have hlt := (List.getElem?_eq_some_iff.mp hi).1
    exact ⟨hw x, cw_turn p (by omega) (ht i x H1 e01 hi) (fun hf => he i x H1 e01 hi hf)⟩
  · exact fun H' p => q Dl H' (fresh_back e1 p.1) (e1.trans p.2.1) p.2.2
theorem el_lcL {σ : L2.St} {H : Hp} {a : Addr} {xs : List V} {tl te : TE} {t : TT} {j : Nat} {vs : List Nat} (f : Nat → Bool) (v : Nat → V) (h : Ev tl σ H (.ref a)) (hx : SqL K H a xs) (hz : xs.length ≤ 40000)
    (hw : ∀ x, wipe ((wipe σ vs).set j (some x)) vs = wipe σ vs) (ht : ∀ (i : Nat) (x : V) H1, Ex H H1 → xs[i]? = some x → EvT t ((wipe σ vs).set j (some x)) H1 (f i))
    (he : ∀ (i : Nat) (x : V) H1, Ex H H1 → xs[i]? = some x → f i = true → Ev te ((wipe σ vs).set j (some x)) H1 (v i)) : EvL (tLc (iList K tl) (gName j) t te vs) σ H (given xs.length f v) := by
  intro H0 e Q q
  refine h H0 e _ fun H1 e1 => ?_
  have e01 := e.trans e1
  refine ⟨a, rfl, ⟨xs, ex_l e01 hx⟩, fun Dl hD => lc_list (xs := xs) (Cw H1 f v Dl) ⟨hD, Ex.new hD, upd_same⟩ (fun i H' _ p => ex_l (e01.trans p.2.1) hx) ?_ ?_⟩
  · intro i x H' hi p
    have hlt := (List.getElem?_eq_some_iff.mp hi).1
    exact ⟨hw x, cw_turn p (by omega) (ht i x H1 e01 hi) (fun hf => he i x H1 e01 hi hf)⟩
  · exact fun H' p => q Dl H' (fresh_back e1 p.1) (e1.trans p.2.1) p.2.2
def itemsD : PyData → List PyData
  | .list ds => ds
  | .tuple ds => ds
  | _ => []
/-- an address of a list or a tuple that holds data -/
theorem rd_seq {ok : Addr → Prop} {H : Hp} {n : Nat} {x : V} {d : PyData} (h : Rd K ok H n x d) (s : isSeq d = true) : ∃ a xs, x = .ref a ∧ (SqL K H a xs ∧ d = .list (itemsD d) ∨ SqT K H a xs ∧ d = .tuple (itemsD d)) ∧ xs.length = (itemsD d).length ∧ xs.length ≤ 1000 ∧
    ∀ (i : Nat) (x : V) (e : PyData), xs[i]? = some x → (itemsD d)[i]? = some e → Rd K ok H (n - 1) x e := by
  cases h with
  | lst h ha hl hz all => exact ⟨_, _, rfl, .inl ⟨SqL.of h, rfl⟩, hl, by omega, all⟩
  | tup h ha hl hz all => exact ⟨_, _, rfl, .inr ⟨h, rfl⟩, hl, by omega, all⟩
  | non => cases s
  | bl _ => cases s
  | int _ => cases s
  | str _ _ _ => cases s
def intD : PyData → Int
  | .int i => i
  | _ => 0
def spAreBetween (K : PySem.W.Frag) : Sp := fun vs H Q _ => ∃ x d n ok lo hi, vs = [x, .int lo, .int hi] ∧ Rd K ok H n x d ∧ isSeq d = true ∧ ∀ H', Ex H H' → Q (.bl ((itemsD d).all (betwD lo hi))) H'
theorem ok_are_between (T : TK K mg) : FnOk P w K mg base CX0 3 T.are_between.a T.are_between.fd ["values", "low", "high"] (spAreBetween K) := by
  refine T.are_between.F.ok sc_are_between (fun vs H Q E h => ?_) (fun cdv A outer s H vs Q E hr h => ?_)
  · obtain ⟨x, d, n, ok, lo, hi, rfl, _⟩ := h; rfl
  obtain ⟨x, d, n, ok, lo, hi, rfl, h, sq, q⟩ := h
  obtain ⟨a, xs, rfl, hs, hl, hz, all⟩ := rd_seq h sq
  refine ⟨_, (pss_one (ps_ret (pe_callB (kall K rfl) (by rfl) T.z_all (by decide +kernel) (pa_cons (pe_lc (own := [("value", 3)]) (g := gName 3) (by rfl) sc_are_between.nd (kpis K (pv 0)) (blkOk_by (own := [("value", 3)]) (N := ["values", "low", "high", "value"]) (sc := defScope s_are_between) (by decide +kernel)) (fun _ _ _ _ _ => (pg_name (i := 3) sc_are_between.nd rfl (Or.inl rfl))) (fun _ _ _ _ _ => pts_nil) (fun _ _ _ _ _ => (pe_call (ok_is_between T.toTA1) (hr.mono (by decide)) rfl T.is_between.m T.is_between.F.kp T.is_between.b .nil pass0 (pa_cons (pv 3) (pa_cons (pv 1) (pa_cons (pv 2) pa_nil)))))) pa_nil)))), ?_⟩
  have fin : ∀ (p : Addr) (H2 : Hp), H p = none → Ex H H2 → H2 p = some (.lst (given xs.length (fun _ => true) (fun i => .bl (betwD lo hi ((itemsD d).getD i .none))))) → ∃ (a : Addr) (bs : List Bool), [V.ref p] = [V.ref a] ∧ SqL K H2 a (bs.map V.bl) ∧ Q (.bl (bs.all id)) H2 := by
    intro p H2 _ e2 h2
    rw [given_all] at h2
    refine ⟨p, (itemsD d).map (betwD lo hi), rfl, ?_, ?_⟩
    · have e : (List.range xs.length).map (fun i => V.bl (betwD lo hi ((itemsD d).getD i .none))) = ((itemsD d).map (betwD lo hi)).map V.bl := by
        apply List.ext_getElem?
        intro i
        rw [List.getElem?_map, List.getElem?_map, List.getElem?_map]
        by_cases c : i < xs.length
        · rw [List.getElem?_range c, List.getElem?_eq_getElem (show i < (itemsD d).length by omega)]
          simp [List.getD_eq_getElem?_getD, List.getElem?_eq_getElem (show i < (itemsD d).length by omega)]
        · rw [List.getElem?_eq_none (by rw [List.length_range]; omega), List.getElem?_eq_none (show (itemsD d).length ≤ i by omega)]
          rfl
      rw [e] at h2
      exact SqL.of h2
    · rw [List.all_map]
      exact q H2 e2
  have he : ∀ (i : Nat) (x : V) (H1 : Hp), Ex H H1 → xs[i]? = some x → Ev (tCall (spIsBetween K) [] E0 (tCons (tVar 3) (tCons (tVar 1) (tCons (tVar 2) tNil)))) ((wipe (start ["values", "low", "high", "value"] [.ref a, .int lo, .int hi]) [3]).set 3 (some x)) H1 (.bl (betwD lo hi ((itemsD d).getD i .none))) := by
    intro i x H1 e1 hx H2 e2 Q2 k2
    have hi := (List.getElem?_eq_some_iff.mp hx).1
    have hd : (itemsD d)[i]? = some ((itemsD d)[i]'(by omega)) := List.getElem?_eq_getElem _
    have r := (all i x _ hx hd).ex (e1.trans e2)
    have g : (itemsD d).getD i .none = (itemsD d)[i]'(by omega) := by rw [List.getD_eq_getElem?_getD, hd]; rfl
    refine ⟨_, rfl, _, rfl, _, rfl, _, _, _, rfl, r.dat, fun b h1 h2 => ?_⟩
    rw [rd_betw r h1 h2, ← g]
    exact k2 H2 (Ex.refl _)
  rcases hs with ⟨hs, _⟩ | ⟨hs, _⟩
  · exact .inl ((el_lcL (t := tYes) (σ := start ["values", "low", "high", "value"] [.ref a, .int lo, .int hi]) (vs := [3]) (fun _ => true) (fun i => .bl (betwD lo hi ((itemsD d).getD i .none))) (ev_var rfl) hs (by omega) (fun _ => rfl) (fun i x H1 _ _ H2 _ Q k => k H2 (Ex.refl _)) (fun i x H1 e1 hx _ => he i x H1 e1 hx)) H (Ex.refl _) (fun v H2 => rAll K [v] H2 Q) fin)
  · exact .inr ((el_lcT (t := tYes) (σ := start ["values", "low", "high", "value"] [.ref a, .int lo, .int hi]) (vs := [3]) (fun _ => true) (fun i => .bl (betwD lo hi ((itemsD d).getD i .none))) (ev_var rfl) hs (by omega) (fun _ => rfl) (fun i x H1 _ _ H2 _ Q k => k H2 (Ex.refl _)) (fun i x H1 e1 hx _ => he i x H1 e1 hx)) H (Ex.refl _) (fun v H2 => rAll K [v] H2 Q) fin)


theorem rdl_ints {ok : Addr → Prop} {H : Hp} {n : Nat} (ns : List Int) : RdL K ok H n (ns.map V.int) (ns.map PyData.int) := by
  refine ⟨by rw [List.length_map, List.length_map], fun i x d hx hd => ?_⟩
  obtain ⟨z, hz, rfl⟩ := ints_get hx
  rw [List.getElem?_map, hz] at hd
  obtain rfl := Option.some.inj hd
  exact .int z
/-- what never raises -/
theorem fn_calm {k : Nat} {f : Addr} {fd : FuncData} {ps : List Str} {sp sp' : Sp} (F : FnOk P w K mg base (L2.CX P w) k f fd ps sp) (h : ∀ vs H Q E, sp' vs H Q E → sp vs H Q E0) : FnOk P w K mg base CX0 k f fd ps sp' := by
  refine ⟨fun vs H Q E q => F.len vs H Q E0 (h _ _ _ _ q), fun A outer s H args us vs Q E hr he hb hv hs => codeAny_mono (F.run A outer s H args us vs Q E0 hr he hb hv (h _ _ _ _ hs)) fun r s' hq => ?_⟩
  cases r with
  | error e =>
    obtain ⟨_, _, _, _, _, _, _, _, _, _, _, _, hE⟩ := hq
    exact hE.elim
  | ok fl => cases fl <;> exact hq
theorem RdL.snoc {ok : Addr → Prop} {H : Hp} {n : Nat} {xs : List V} {ds : List PyData} {x : V} {d : PyData} (h : RdL K ok H n xs ds) (r : Rd K ok H n x d) : RdL K ok H n (xs ++ [x]) (ds ++ [d]) := by
  refine ⟨by rw [List.length_append, List.length_append, h.1]; rfl, fun i y e hy he => ?_⟩
  by_cases c : i < xs.length
  · rw [List.getElem?_append_left c] at hy
    rw [List.getElem?_append_left (by rw [← h.1]; exact c)] at he
    exact h.2 i y e hy he
  · have hi := (List.getElem?_eq_some_iff.mp hy).1
    rw [List.length_append, List.length_singleton] at hi
    have e1 : i = xs.length := by omega
    subst e1
    rw [List.getElem?_append_right (Nat.le_refl _), Nat.sub_self] at hy
    rw [h.1, List.getElem?_append_right (Nat.le_refl _), Nat.sub_self] at he
    cases Option.some.inj hy
    cases Option.some.inj he
    exact r
theorem RdL.of {ok ok' : Addr → Prop} {H : Hp} {n : Nat} {xs : List V} {ds : List PyData} (w : ∀ a, ok a → ok' a) (h : RdL K ok H n xs ds) : RdL K ok' H n xs ds := ⟨h.1, fun i x d hx hd => (h.2 i x d hx hd).of w⟩
theorem tyes {σ : L2.St} {H : Hp} {F G : Hp → Prop} (h : F H) : tYes σ H (fun b H3 => if b = true then F H3 else G H3) := by
  show if true = true then F H else G H
  rw [if_pos rfl]
  exact h
/-- a comprehension over a range that makes data -/
theorem lc_rd {σ : L2.St} {H : Hp} {ta : TA} {te : TE} {j m : Nat} {vs : List Nat} {n : Int} {d : Nat → PyData} (h : EvA ta σ H [.int n]) (hn : 0 ≤ n ∧ n ≤ 900) (hw : ∀ x, wipe ((wipe σ vs).set j (some x)) vs = wipe σ vs)
    (he : ∀ (i : Nat) H1, Ex H H1 → (i : Int) < n → ∀ Q : VK, (∀ x H2, Ex H1 H2 → Rd K (fun a => H1 a = none) H2 m x (d i) → Q x H2) → te ((wipe σ vs).set j (some (.int (i : Int)))) H1 Q)
    {Q : VK} (q : ∀ p H', Ex H H' → Rd K (fun a => H a = none) H' (m + 1) (.ref p) (.list ((List.range n.toNat).map d)) → Q (.ref p) H') : tLc (iRng1 ta) (gName j) tYes te vs σ H Q := by
  refine h H (Ex.refl _) _ fun H1 e1 => ⟨n, rfl, by omega, by omega, fun D hD => ?_⟩
  refine lc_range (lo := 0) (n := n.toNat) (fun i H' => Ex H1 H' ∧ ∃ xs, H' D = some (.lst xs) ∧ xs.length = i ∧ RdL K (fun a => H1 a = none ∧ a ≠ D) H' m xs ((List.range i).map d)) ⟨Ex.new hD, [], upd_same, rfl, rfl, fun i x e hx _ => by cases hx⟩ (fun i H' hi p => ⟨hw _, ?_⟩) (fun H' p => ?_)
  · obtain ⟨p1, xs, p2, p3, p4⟩ := p
    have e0 : (0 : Int) + (i : Int) = (i : Int) := Int.zero_add _
    show tYes _ H' (fun b H3 => if b = true then te ((wipe σ vs).set j (some (.int ((0 : Int) + (i : Int))))) H3 fun y H4 => ∃ acc, H4 D = some (.lst acc) ∧ acc.length < sizeLine ∧ _ else _)
    rw [e0]
    refine tyes ?_
    refine he i H' (e1.trans p1) (by omega) _ fun x H2 e2 rx => ⟨xs, e2 _ _ p2, small1000 (by omega), (p1.trans e2).mut hD, xs ++ [x], upd_same, by rw [List.length_append, p3]; rfl, ?_⟩
    rw [List.range_succ, List.map_append]
    refine RdL.snoc ?_ ?_
    · have r1 := p4.ex e2
      exact r1.but (b := D) But.upd (fun a ha => ha.2)
    · have nD : ∀ a, H' a = none → H1 a = none ∧ a ≠ D := fun a ha => ⟨fresh_back p1 ha, fun z => by rw [z, p2] at ha; cases ha⟩
      exact (rx.of nD).but (b := D) But.upd (fun a ha => ha.2)
  · obtain ⟨p1, xs, p2, p3, p4⟩ := p
    have fr : ∀ a, H1 a = none → H a = none := fun a ha => fresh_back e1 ha
    have r := p4.of (ok' := fun a => H a = none) (fun a ha => fr a ha.1)
    exact q D H' (e1.trans p1) (.lst p2 (fr D hD) r.1 (by omega) r.2)
theorem el_lcR2 {σ : L2.St} {H : Hp} {ta : TA} {t : TT} {te : TE} {j : Nat} {vs : List Nat} {lo n : Int} (f : Nat → Bool) (v : Nat → V) (h : EvA ta σ H [.int lo, .int n]) (hn : 0 ≤ lo ∧ lo ≤ 40000 ∧ -40000 ≤ n ∧ n ≤ 40000) (hw : ∀ x, wipe ((wipe σ vs).set j (some x)) vs = wipe σ vs)
    (ht : ∀ (i : Nat) H1, Ex H H1 → lo + (i : Int) < n → EvT t ((wipe σ vs).set j (some (.int (lo + (i : Int))))) H1 (f i)) (he : ∀ (i : Nat) H1, Ex H H1 → lo + (i : Int) < n → f i = true → Ev te ((wipe σ vs).set j (some (.int (lo + (i : Int))))) H1 (v i)) :
    EvL (tLc (iRng2 ta) (gName j) t te vs) σ H (given (n - lo).toNat f v) := fun H0 e Q q => h H0 e _ fun H1 e1 => ⟨lo, n, rfl, ⟨by omega, by omega, by omega, by omega⟩, fun Dl hD =>
  lc_range (lo := lo) (n := (n - lo).toNat) (Cw H1 f v Dl) ⟨hD, Ex.new hD, upd_same⟩ (fun i H' hi p => ⟨hw _, cw_turn p (by omega) (ht i H1 (e.trans e1) (by omega)) (fun hf => he i H1 (e.trans e1) (by omega) hf)⟩) (fun H' p => q Dl H' (fresh_back e1 p.1) (e1.trans p.2.1) p.2.2)⟩
def listI (l : List Int) : PyData := .list (l.map PyData.int)
def list2 (l : List (List Int)) : PyData := .list (l.map listI)
/-- a list of lists of ints -/
theorem rd_list2 {ok : Addr → Prop} {H : Hp} {m : Nat} {x : V} {T : List (List Int)} (h : Rd K ok H m x (list2 T)) : ∃ a vs, x = .ref a ∧ H a = some (.lst vs) ∧ vs.length = T.length ∧ vs.length ≤ 900 ∧ ∀ (i : Nat) (v : V), vs[i]? = some v → ∃ b t, v = .ref b ∧ T[i]? = some t ∧ H b = some (.lst (t.map V.int)) := by
  unfold list2 at h
  cases h with
  | lst h ha hl hz all =>
    rw [List.length_map] at hl
    refine ⟨_, _, rfl, h, hl, hz, fun i v hv => ?_⟩
    have hi := (List.getElem?_eq_some_iff.mp hv).1
    have ht : T[i]? = some (T[i]'(by omega)) := List.getElem?_eq_getElem _
    have r := all i v (listI (T[i]'(by omega))) hv (by rw [List.getElem?_map, ht]; rfl)
    generalize T[i]'(by omega) = t at ht r
    unfold listI at r
    generalize hd : (PyData.list (t.map PyData.int)) = d at r
    cases r with
    | lst h2 ha2 hl2 hz2 all2 =>
      cases hd
      rename_i b xs
      refine ⟨b, t, rfl, ht, ?_⟩
      have : xs = t.map V.int := by
        rw [List.length_map] at hl2
        apply List.ext_getElem?
        intro k
        rw [List.getElem?_map]
        by_cases hk : k < xs.length
        · have h3 : t[k]? = some (t[k]'(by omega)) := List.getElem?_eq_getElem _
          have r2 := all2 k (xs[k]) (.int (t[k]'(by omega))) (List.getElem?_eq_getElem hk) (by rw [List.getElem?_map, h3]; rfl)
          rw [List.getElem?_eq_getElem hk, h3]
          generalize xs[k] = xk at r2
          generalize t[k]'(by omega) = tk at r2
          cases r2
          rfl
        · rw [List.getElem?_eq_none (by omega), List.getElem?_eq_none (by omega)]; rfl
      rw [← this]
      exact h2
    | tup _ _ _ _ _ => cases hd
    | non => cases hd
    | bl _ => cases hd
    | int _ => cases hd
    | str _ _ _ => cases hd
def rowD (d : PyData) : Bool := isSeq d && decide ((itemsD d).length ≤ 16) && (itemsD d).all (betwD 1 100000000000000000000000000000000000000000000000000)
def spIsRowD (K : PySem.W.Frag) : Sp := fun vs H Q _ => ∃ x d n ok, vs = [x] ∧ Rd K ok H n x d ∧ ∀ H', Ex H H' → Q (.bl (rowD d)) H'
theorem ok_is_row (T : TK K mg) : FnOk P w K mg base CX0 4 T.is_row.a T.is_row.fd ["value"] (spIsRowD K) := by
  refine T.is_row.F.ok sc_is_row (fun vs H Q E h => ?_) (fun cdv A outer s H vs Q E hr h => ?_)
  · obtain ⟨x, d, n, ok, rfl, _⟩ := h; rfl
  obtain ⟨x, d, n, ok, rfl, h, q⟩ := h
  refine ⟨_, (pss_cons (ps_if (PW.pt (pw_or (pt_not (pt_val (pe_call (ok_is_list T.toTA1) (hr.mono (by decide)) rfl T.is_list.m T.is_list.F.kp T.is_list.b .nil pass0 (pa_cons (pv 0) pa_nil)))) (pw_or1 (pt_cmpR op_gt (pe_callB (klen K) (by rfl) T.z_len (by decide +kernel) (pa_cons (pv 0) pa_nil)) (pe_glob (v := .int 16) rfl T.c_MOST_NUMBERS ⟨_, rfl⟩) (nomark _))))) (pss_one (ps_ret pe_bl)) pss_nil)
    (pss_one (ps_ret (pe_call (ok_are_between T) (hr.mono (by decide)) rfl T.are_between.m T.are_between.F.kp T.are_between.b .nil pass0 (pa_cons (pv 0) (pa_cons pe_int (pa_cons (pe_glob (v := .int 100000000000000000000000000000000000000000000000000) rfl T.c_GREATEST ⟨_, rfl⟩) pa_nil))))))), ?_⟩
  refine ⟨_, rfl, x, d, n, ok, rfl, .inl h, fun H1 e1 => ⟨isSeq d, rfl, ?_⟩⟩
  cases sq : isSeq d with
  | false => exact iteT (iteT (by have := q _ e1; unfold rowD at this; rw [sq] at this; exact this))
  | true =>
  have h1 := h.ex e1
  obtain ⟨a, xs, rfl, hs, hl, hz, all⟩ := rd_seq h1 sq
  refine iteF ⟨_, rfl, _, _, rfl, (hs.imp (fun z => ⟨_, z.1, rfl⟩) (fun z => ⟨_, z.1, rfl⟩)), _, _, rfl, rfl, _, rfl, ite2 (fun c => ?_) (fun c => ?_)⟩
  · have c' := of_decide_eq_true c
    have := q _ e1
    unfold rowD at this
    rw [sq, decide_eq_false (show ¬ (itemsD d).length ≤ 16 by omega)] at this
    exact this
  · have c' := of_decide_eq_false (Bool.eq_false_iff.mpr c)
    refine ⟨_, rfl, .ref a, d, n, ok, 1, 100000000000000000000000000000000000000000000000000, rfl, h1, sq, fun H2 e2 => ?_⟩
    have := q _ (e1.trans e2)
    unfold rowD at this
    rw [sq, decide_eq_true (show (itemsD d).length ≤ 16 by omega)] at this
    exact this
theorem ok_check_row (T : TK K mg) : FnOk P w K mg base (L2.CX P w) 5 T.check_row.a T.check_row.fd ["row"] (spChkD K T.InvalidRow.C rowD) := by
  refine T.check_row.F.okX sc_check_row (fun vs H Q E h => ?_) (fun cdv A outer s H vs Q E hr h => ?_)
  · obtain ⟨x, d, n, ok, rfl, _⟩ := h; rfl
  obtain ⟨x, d, n, ok, rfl, h, q1, q2⟩ := h
  refine ⟨_, (pss_one (ps_if (pt_not (pt_val (pe_call (ok_is_row T) (hr.mono (by decide)) rfl T.is_row.m T.is_row.F.kp T.is_row.b .nil pass0 (pa_cons (pv 0) pa_nil)))) (pss_one (ps_raise rfl (takes_of rfl rfl rfl rfl) (pmk_oex T.InvalidRow.T T.InvalidRow.iC T.InvalidRow.tI (ok_init_InvalidRow T.InvalidRow) (hr.mono (by decide)) T.InvalidRow.b .nil pass0 rfl T.InvalidRow.gC (by exact (pa_cons (pv 0) pa_nil))))) pss_nil)), ?_⟩
  refine ⟨_, rfl, x, d, n, ok, rfl, h, fun H1 e1 => ⟨_, rfl, ?_⟩⟩
  cases c : rowD d with
  | true => exact iteF (q1 c _ e1)
  | false => exact iteT ⟨_, rfl, (by show 1 ≤ 1000; decide), fun a ha => raised ha fun e H' ex he => q2 c e H' (e1.trans ex) he⟩
theorem at_neg1 {us : List V} {v : V} : atI (us ++ [v]) (-1) = some v := by
  have e : ixN (us ++ [v]).length (-1) = some us.length := by
    unfold ixN
    rw [if_neg (by decide), if_pos (by rw [List.length_append, List.length_singleton]; omega), List.length_append, List.length_singleton]
    congr 1
    omega
  unfold atI
  rw [e]
  simp
theorem seq_ints {ok : Addr → Prop} {H : Hp} {n : Nat} {x : V} {d : PyData} {p : PyData → Bool} (h : Rd K ok H n x d) (sq : isSeq d = true) (al : (itemsD d).all p = true) (hp : ∀ e, p e = true → ∃ i, e = .int i) :
    ∃ a, x = .ref a ∧ (SqL K H a (((itemsD d).map intD).map V.int) ∨ SqT K H a (((itemsD d).map intD).map V.int)) := by
  obtain ⟨a, xs, rfl, hs, hl, hz, all⟩ := rd_seq h sq
  have e : xs = ((itemsD d).map intD).map V.int := by
    apply List.ext_getElem?
    intro i
    rw [List.getElem?_map, List.getElem?_map]
    by_cases hi : i < xs.length
    · have hd : (itemsD d)[i]? = some ((itemsD d)[i]'(by omega)) := List.getElem?_eq_getElem _
      have r := all i _ _ (List.getElem?_eq_getElem hi) hd
      obtain ⟨z, ez⟩ := hp _ (List.all_eq_true.mp al _ (List.getElem_mem (show i < (itemsD d).length by omega)))
      rw [hd, List.getElem?_eq_getElem hi]
      rw [ez] at r ⊢
      generalize xs[i] = xx at r
      generalize n - 1 = nn at r
      cases r with
      | int z => rfl
    · rw [List.getElem?_eq_none (by omega), List.getElem?_eq_none (show (itemsD d).length ≤ i by omega)]; rfl
  rw [← e]
  exact ⟨a, rfl, hs.imp (fun z => z.1) (fun z => z.1)⟩
theorem RdL.nil {ok : Addr → Prop} {H : Hp} {n : Nat} : RdL K ok H n [] [] := ⟨rfl, fun i x d h _ => by cases h⟩
theorem RdL.cons {ok : Addr → Prop} {H : Hp} {n : Nat} {x : V} {d : PyData} {xs : List V} {ds : List PyData} (h : Rd K ok H n x d) (r : RdL K ok H n xs ds) : RdL K ok H n (x :: xs) (d :: ds) := by
  refine ⟨by rw [List.length_cons, List.length_cons, r.1], fun i y e hy he => ?_⟩
  cases i with
  | zero => cases Option.some.inj hy; cases Option.some.inj he; exact h
  | succ i => exact r.2 i y e hy he
theorem betw_isint {lo hi : Int} : ∀ e, betwD lo hi e = true → ∃ i, e = .int i := fun e h => by cases e <;> first | exact ⟨_, rfl⟩ | cases h
def numsD (d : PyData) : List Int := (itemsD d).map intD
theorem row_get {ok : Addr → Prop} {H : Hp} {n : Nat} {x : V} {d : PyData} (h : Rd K ok H n x d) (c : rowD d = true) : ∃ a, x = .ref a ∧ (SqL K H a ((numsD d).map V.int) ∨ SqT K H a ((numsD d).map V.int)) ∧ (numsD d).length ≤ 16 ∧ ∀ k ∈ numsD d, 1 ≤ k := by
  unfold rowD at c
  simp only [Bool.and_eq_true] at c
  obtain ⟨⟨c1, c2⟩, c3⟩ := c
  obtain ⟨a, e, hs⟩ := seq_ints h c1 c3 betw_isint
  refine ⟨a, e, hs, by unfold numsD; rw [List.length_map]; exact of_decide_eq_true c2, fun k hk => ?_⟩
  obtain ⟨y, hy, rfl⟩ := List.mem_map.mp hk
  have := List.all_eq_true.mp c3 y hy
  obtain ⟨i, rfl⟩ := betw_isint y this
  exact (of_decide_eq_true this).1
end
end L2.U


set_option Elab.async false
set_option linter.all false
set_option maxRecDepth 100000
set_option maxHeartbeats 4000000
namespace L2.U
open PySem PySem.Spec PyProof.Rows Evl
section
variable {P : Program} {w : World} {K : PySem.W.Frag} {mg : Str → Option Value} {base : Heap}
def optV : Option Int → V
  | none => .non
  | some i => .int i
def fstO {α : Type} (p : α → Bool) : Nat → List α → Option Int
  | _, [] => none
  | k, x :: r => if p x then some (k : Int) else fstO p (k + 1) r
theorem fstO_drop {α : Type} {p : α → Bool} {l : List α} {i : Nat} {x : α} (h : l[i]? = some x) (hp : p x = false) : fstO p i (l.drop i) = fstO p (i + 1) (l.drop (i + 1)) := by
  obtain ⟨hi, e⟩ := List.getElem?_eq_some_iff.mp h
  rw [List.drop_eq_getElem_cons hi, e]
  show (if p x then _ else _) = _
  rw [if_neg (by rw [hp]; decide)]
theorem fstO_hit {α : Type} {p : α → Bool} {l : List α} {i : Nat} {x : α} (h : l[i]? = some x) (hp : p x = true) : fstO p i (l.drop i) = some (i : Int) := by
  obtain ⟨hi, e⟩ := List.getElem?_eq_some_iff.mp h
  rw [List.drop_eq_getElem_cons hi, e]
  show (if p x then _ else _) = _
  rw [if_pos hp]
def leftTo (x : Int) (f : Nat → Int) : Nat → Int
  | 0 => -1
  | k + 1 => if x ≤ f k then (k : Int) else leftTo x f k
theorem leftTo_spec (x : Int) (f : Nat → Int) : ∀ m, (leftTo x f m = -1 ∧ ∀ l, l < m → ¬ x ≤ f l) ∨ ∃ L, L < m ∧ leftTo x f m = (L : Int) ∧ x ≤ f L ∧ ∀ l, l < m → x ≤ f l → l ≤ L
  | 0 => .inl ⟨rfl, fun l h => absurd h (Nat.not_lt_zero _)⟩
  | m + 1 => by
    unfold leftTo
    by_cases c : x ≤ f m
    · rw [if_pos c]
      exact .inr ⟨m, by omega, rfl, c, fun l h _ => by omega⟩
    · rw [if_neg c]
      rcases leftTo_spec x f m with ⟨h1, h2⟩ | ⟨L, h1, h2, h3, h4⟩
      · exact .inl ⟨h1, fun l h => by
          by_cases e : l = m
          · rw [e]; exact c
          · exact h2 l (by omega)⟩
      · exact .inr ⟨L, by omega, h2, h3, fun l h g => by
          by_cases e : l = m
          · rw [e] at g; exact absurd g c
          · exact h4 l (by omega) g⟩
theorem range_getD {α β : Type} (g : α → β) : ∀ (l : List α) (d : α), (List.range l.length).map (fun k => g (l.getD k d)) = l.map g := by
  intro l d
  apply List.ext_getElem?
  intro i
  rw [List.getElem?_map, List.getElem?_map]
  by_cases hi : i < l.length
  · rw [List.getElem?_range hi, List.getElem?_eq_getElem hi]
    show some (g (l.getD i d)) = some (g l[i])
    rw [List.getD_eq_getElem?_getD, List.getElem?_eq_getElem hi]
    rfl
  · rw [List.getElem?_eq_none (by rw [List.length_range]; omega), List.getElem?_eq_none (by omega)]
    rfl
theorem given_ints {n : Nat} {f : Nat → Bool} : given n f (fun l : Nat => V.int (l : Int)) = (((List.range n).filter f).map fun l : Nat => (l : Int)).map V.int := by
  unfold given
  rw [List.map_map]
  rfl
theorem ints_getD {ns : List Int} {i : Nat} (h : i < ns.length) : (ns.map V.int)[i]? = some (.int (ns.getD i 0)) := by
  rw [List.getElem?_map, List.getElem?_eq_getElem h, List.getD_eq_getElem?_getD, List.getElem?_eq_getElem h]
  rfl
theorem cutV_take {xs : List V} {k : Nat} : cutV xs none (some (k : Int)) = xs.take k := by
  unfold cutV
  rw [HT.sIx_nat]
  show (xs.drop 0).take (min k xs.length - 0) = _
  rw [List.drop_zero, Nat.sub_zero]
  exact List.take_eq_take_iff.mpr (by omega)
theorem any_ne {n : Nat} {f : Nat → Bool} : (!PyData.eqv (.list ((((List.range n).filter f).map fun l : Nat => (l : Int)).map PyData.int)) (.list [])) = (List.range n).any f := by
  cases c : (List.range n).filter f with
  | nil =>
    have : (List.range n).any f = false := by
      rw [List.any_eq_false]
      intro x hx hf
      have := List.mem_filter.mpr ⟨hx, hf⟩
      rw [c] at this
      cases this
    rw [this]
    rfl
  | cons y ys =>
    have : (List.range n).any f = true := by
      rw [List.any_eq_true]
      have := List.mem_filter.mp (show y ∈ (List.range n).filter f by rw [c]; exact List.mem_cons_self)
      exact ⟨y, this⟩
    rw [this]
    rfl
def rowB (m : Nat) (t : Nat → Bool) : PyData := .list ((List.range (m + 1)).map fun a => .bool (t a))
theorem rd_rowB {ok : Addr → Prop} {H : Hp} {j m : Nat} {x : V} {t : Nat → Bool} (h : Rd K ok H j x (rowB m t)) : ∃ b xs, x = .ref b ∧ H b = some (.lst xs) ∧ ∀ a, a ≤ m → xs[a]? = some (.bl (t a)) := by
  unfold rowB at h
  generalize hd : (PyData.list ((List.range (m + 1)).map fun a => PyData.bool (t a))) = d at h
  cases h with
  | lst h ha hl hz all =>
    cases hd
    rw [List.length_map, List.length_range] at hl
    refine ⟨_, _, rfl, h, fun a ha => ?_⟩
    have hx := List.getElem?_eq_getElem (show a < _ by rw [hl]; omega)
    rw [hx]
    have r := all a _ (.bool (t a)) hx (by rw [List.getElem?_map, List.getElem?_range (by omega)]; rfl)
    generalize (_ : List V)[a]'_ = y at r ⊢
    cases r
    rfl
  | _ => cases hd
theorem lc_rdS {σ : L2.St} {H : Hp} {ta : TA} {te : TE} {i j m : Nat} {vs : List Nat} {n : Int} {d : Nat → PyData} {rest : TS} {D : Ends} (h : EvA ta σ H [.int n]) (hn : 0 ≤ n ∧ n ≤ 900) (hw : ∀ x, wipe ((wipe σ vs).set j (some x)) vs = wipe σ vs)
    (he : ∀ (i : Nat) H1, Ex H H1 → (i : Int) < n → ∀ Q : VK, (∀ x H2, Ex H1 H2 → Rd K (fun a => H1 a = none) H2 m x (d i) → Q x H2) → te ((wipe σ vs).set j (some (.int (i : Int)))) H1 Q)
    (q : ∀ p H', Ex H H' → Rd K (fun a => H a = none) H' (m + 1) (.ref p) (.list ((List.range n.toNat).map d)) → rest D (σ.set i (some (.ref p))) H') : tSeq (tAsg (tLc (iRng1 ta) (gName j) tYes te vs) (gName i)) rest D σ H :=
  lc_rd (K := K) (Q := fun v H' => rest D (σ.set i (some v)) H') h hn hw he q
theorem gn_ {i : Nat} {v : V} {σ : L2.St} {H : Hp} {k : L2.St → Hp → Prop} (h : k (σ.set i (some v)) H) : gName i v σ H k := h
theorem el_seq {i : Nat} {te : TE} {xs : List V} {rest : TS} {D : Ends} {σ : L2.St} {H : Hp} (h : EvL te σ H xs) (q : ∀ p H', H p = none → Ex H H' → H' p = some (.lst xs) → rest D (σ.set i (some (.ref p))) H') : tSeq (tAsg te (gName i)) rest D σ H := h H (Ex.refl _) _ q
theorem four_le : 4 ≤ sizeLine := by decide
theorem three_le : 3 ≤ sizeLine := by decide
theorem six_le : 6 ≤ sizeLine := by decide
theorem ev_seq {i : Nat} {te : TE} {v : V} {rest : TS} {D : Ends} {σ : L2.St} {H : Hp} (h : Ev te σ H v) (q : ∀ H', Ex H H' → rest D (σ.set i (some v)) H') : tSeq (tAsg te (gName i)) rest D σ H := h H (Ex.refl _) _ q
theorem ten_le : 10 ≤ sizeLine := by decide
theorem butMut {b p : Addr} {H H' : Hp} {o : HO} (k : But b H H') (h : H p = Option.none) : But b H (upd H' p o) := fun a u ha hu => by
  rw [upd_ne (ne_of_none hu h)]
  exact k a u ha hu
theorem box_mut {H : Hp} {b p : Addr} {n : Nat} {o : HO} (h : BoxAt H b n) (hp : p ≠ b) : BoxAt (upd H p o) b n := by
  obtain ⟨d, m, c, f, h, r⟩ := h
  exact ⟨d, m, c, f, by rw [upd_ne (Ne.symm hp)]; exact h, r⟩
theorem nuMin2_int (i j : Int) : nuMin2 (.int i) (.int j) = some (.int (if j < i then j else i)) := by
  show some (if decide (j < i) = true then V.int j else V.int i) = _
  by_cases c : j < i
  · rw [if_pos (decide_eq_true c), if_pos c]
  · rw [if_neg (by rw [decide_eq_false c]; decide), if_neg c]
def m3 (i j k : Int) : Int := if k < (if j < i then j else i) then k else (if j < i then j else i)
theorem nuMin3_int (i j k : Int) : nuMin3 (.int i) (.int j) (.int k) = some (.int (m3 i j k)) := by
  unfold nuMin3
  rw [nuMin2_int]
  exact nuMin2_int _ _
theorem but_fresh {H H' : Hp} {b f : Addr} {n m : Nat} (k : But b H H') (hb : BoxAt H b n) (hb2 : BoxAt H' b m) (h : H' f = none) : H f = none := by
  obtain ⟨o, ho⟩ := hb.some
  exact k.none ho h (hb2.ne h)
theorem box_ne {H : Hp} {b a : Addr} {n : Nat} (hb : BoxAt H b n) (h : H a = none) : a ≠ b := hb.ne h
def Fr (H : Hp) : Addr → Prop := fun a => H a = none

theorem dec0 (n : Nat) : decide (V.int (n : Int) = V.int 0) = decide (n = 0) := by
  by_cases c : n = 0
  · rw [c]; rfl
  · rw [decide_eq_false c]
    exact decide_eq_false fun e => c (by have := V.int.inj e; omega)
def GoodR (ns : List Int) : Prop := ns.length ≤ 16 ∧ ∀ z ∈ ns, 1 ≤ z ∧ z ≤ 100000000000000000000000000000000000000000000000000
theorem betw_all {lo hi : Int} {ns : List Int} (h : ∀ z ∈ ns, lo ≤ z ∧ z ≤ hi) : (ns.map PyData.int).all (betwD lo hi) = true := by
  rw [List.all_eq_true]
  intro d hd
  obtain ⟨z, hz, rfl⟩ := List.mem_map.mp hd
  exact decide_eq_true (h z hz)
theorem row_list {ns : List Int} (g : GoodR ns) : rowD (.list (ns.map PyData.int)) = true := by
  unfold rowD
  rw [Bool.and_eq_true, Bool.and_eq_true]
  exact ⟨⟨rfl, decide_eq_true (by show (ns.map PyData.int).length ≤ 16; rw [List.length_map]; exact g.1)⟩, betw_all g.2⟩
theorem row_tup {ns : List Int} (g : GoodR ns) : rowD (.tuple (ns.map PyData.int)) = true := by
  unfold rowD
  rw [Bool.and_eq_true, Bool.and_eq_true]
  exact ⟨⟨rfl, decide_eq_true (by show (ns.map PyData.int).length ≤ 16; rw [List.length_map]; exact g.1)⟩, betw_all g.2⟩
theorem nums_map {ns : List Int} : (ns.map PyData.int).map intD = ns := by
  rw [List.map_map]
  have : intD ∘ PyData.int = id := rfl
  rw [this, List.map_id]
theorem rd_ilist {ok : Addr → Prop} {H : Hp} {a : Addr} {ns : List Int} (h : H a = some (.lst (ns.map V.int))) (o : ok a) (l : ns.length ≤ 900) : Rd K ok H 1 (.ref a) (.list (ns.map PyData.int)) :=
  have rd := rdl_ints (K := K) (ok := ok) (H := H) (n := 0) ns
  .lst h o rd.1 (by rw [List.length_map]; exact l) rd.2
theorem rd_ituple {ok : Addr → Prop} {H : Hp} {a : Addr} {ns : List Int} (h : SqT K H a (ns.map V.int)) (o : ok a) (l : ns.length ≤ 900) : Rd K ok H 1 (.ref a) (.tuple (ns.map PyData.int)) :=
  have rd := rdl_ints (K := K) (ok := ok) (H := H) (n := 0) ns
  .tup h o rd.1 (by rw [List.length_map]; exact l) rd.2
theorem rd_lst_at {ok : Addr → Prop} {H : Hp} {n : Nat} {p : Addr} {ds : List PyData} (h : Rd K ok H n (.ref p) (.list ds)) : ∃ xs, H p = some (.lst xs) ∧ ok p ∧ xs.length = ds.length ∧ xs.length ≤ 900 ∧ ∀ (i : Nat) (x : V) (d : PyData), xs[i]? = some x → ds[i]? = some d → Rd K ok H (n - 1) x d := by
  cases h with
  | lst h ha hl hz all => exact ⟨_, h, ha, hl, hz, all⟩
theorem ixN_int {n : Nat} {i : Int} (h0 : 0 ≤ i) (h : i < (n : Int)) : ixN n i = some i.toNat := by
  have := ixN_nat (n := n) (j := i.toNat) (by omega)
  rwa [show ((i.toNat : Nat) : Int) = i by omega] at this
theorem nine_le : 9 ≤ sizeLine := by decide
theorem one_le : 1 ≤ sizeLine := by decide
theorem new_at {X : Hp} {p : Addr} {o : HO} (h : X p = none) : Ex X (upd X p o) ∧ upd X p o p = some o := ⟨Ex.new h, upd_same⟩
theorem ex_but {b : Addr} {H H' : Hp} (hb : H b = none) (k : But b H H') : Ex H H' := fun a o h => k a o (by rintro rfl; rw [hb] at h; cases h) h
def sufs : List Int → List (List Int)
  | [] => [[]]
  | x :: ns => (x :: ns) :: sufs ns
theorem sufs_at : ∀ (ns : List Int) (k : Nat), k ≤ ns.length → (sufs ns)[k]? = some (ns.drop k)
  | [], 0, _ => rfl
  | x :: ns, 0, _ => rfl
  | x :: ns, k + 1, h => sufs_at ns k (Nat.le_of_succ_le_succ h)
theorem sufs_len : ∀ ns : List Int, (sufs ns).length = ns.length + 1
  | [] => rfl
  | x :: ns => congrArg (· + 1) (sufs_len ns)
theorem lc_rd2 {σ : L2.St} {H : Hp} {ta : TA} {te : TE} {j m : Nat} {vs : List Nat} {lo n : Int} {d : Nat → PyData} (h : EvA ta σ H [.int lo, .int n]) (hn : 0 ≤ lo ∧ lo ≤ 900 ∧ -900 ≤ n ∧ n ≤ 900) (hw : ∀ x, wipe ((wipe σ vs).set j (some x)) vs = wipe σ vs)
    (he : ∀ (i : Nat) H1, Ex H H1 → lo + (i : Int) < n → ∀ Q : VK, (∀ x H2, Ex H1 H2 → Rd K (fun a => H1 a = none) H2 m x (d i) → Q x H2) → te ((wipe σ vs).set j (some (.int (lo + (i : Int))))) H1 Q)
    {Q : VK} (q : ∀ p H', Ex H H' → H p = none → Rd K (fun a => H a = none) H' (m + 1) (.ref p) (.list ((List.range (n - lo).toNat).map d)) → Q (.ref p) H') : tLc (iRng2 ta) (gName j) tYes te vs σ H Q := by
  refine h H (Ex.refl _) _ fun H1 e1 => ⟨lo, n, rfl, ⟨by omega, by omega, by omega, by omega⟩, fun D hD => ?_⟩
  refine lc_range (lo := lo) (n := (n - lo).toNat) (fun i H' => Ex H1 H' ∧ ∃ xs, H' D = some (.lst xs) ∧ xs.length = i ∧ RdL K (fun a => H1 a = none ∧ a ≠ D) H' m xs ((List.range i).map d)) ⟨Ex.new hD, [], upd_same, rfl, rfl, fun i x e hx _ => by cases hx⟩ (fun i H' hi p => ⟨hw _, ?_⟩) (fun H' p => ?_)
  · obtain ⟨p1, xs, p2, p3, p4⟩ := p
    refine tyes ?_
    refine he i H' (e1.trans p1) (by omega) _ fun x H2 e2 rx => ⟨xs, e2 _ _ p2, small1000 (by omega), (p1.trans e2).mut hD, xs ++ [x], upd_same, by rw [List.length_append, p3]; rfl, ?_⟩
    rw [List.range_succ, List.map_append]
    refine RdL.snoc ?_ ?_
    · have r1 := p4.ex e2
      exact r1.but (b := D) But.upd (fun a ha => ha.2)
    · have nD : ∀ a, H' a = none → H1 a = none ∧ a ≠ D := fun a ha => ⟨fresh_back p1 ha, fun z => by rw [z, p2] at ha; cases ha⟩
      exact (rx.of nD).but (b := D) But.upd (fun a ha => ha.2)
  · obtain ⟨p1, xs, p2, p3, p4⟩ := p
    have fr : ∀ a, H1 a = none → H a = none := fun a ha => fresh_back e1 ha
    have r := p4.of (ok' := fun a => H a = none) (fun a ha => fr a ha.1)
    exact q D H' (e1.trans p1) (fr D hD) (.lst p2 (fr D hD) r.1 (by omega) r.2)
theorem rd_listI {ok : Addr → Prop} {H : Hp} {m : Nat} {x : V} {t : List Int} (h : Rd K ok H m x (listI t)) : ∃ o, x = .ref o ∧ ok o ∧ H o = some (.lst (t.map V.int)) ∧ t.length ≤ 900 := by
  unfold listI at h
  generalize hd : (PyData.list (t.map PyData.int)) = d at h
  cases h with
  | lst h2 ha2 hl2 hz2 all2 =>
    cases hd
    rename_i b xs
    have e : xs = t.map V.int := by
      apply List.ext_getElem?
      intro i
      by_cases hi : i < xs.length
      · have hx := List.getElem?_eq_getElem hi
        have ht : i < t.length := by rw [List.length_map] at hl2; omega
        have r := all2 i _ (.int t[i]) hx (by rw [List.getElem?_map, List.getElem?_eq_getElem ht]; rfl)
        rw [hx, List.getElem?_map, List.getElem?_eq_getElem ht]
        generalize xs[i] = y at r ⊢
        cases r
        rfl
      · rw [List.getElem?_eq_none (by omega), List.getElem?_eq_none (by rw [List.length_map] at hl2 ⊢; omega)]
    rw [e] at h2
    exact ⟨b, rfl, ha2, h2, by rw [List.length_map] at hl2; omega⟩
  | _ => cases hd
theorem RdL.app {ok : Addr → Prop} {H : Hp} {n : Nat} {xs ys : List V} {ds es : List PyData} (h1 : RdL K ok H n xs ds) (h2 : RdL K ok H n ys es) : RdL K ok H n (xs ++ ys) (ds ++ es) := by
  refine ⟨by rw [List.length_append, List.length_append, h1.1, h2.1], fun i x d hx hd => ?_⟩
  by_cases c : i < xs.length
  · rw [List.getElem?_append_left c] at hx
    rw [List.getElem?_append_left (by rw [← h1.1]; exact c)] at hd
    exact h1.2 i x d hx hd
  · rw [List.getElem?_append_right (by omega)] at hx
    rw [List.getElem?_append_right (by rw [← h1.1]; omega), ← h1.1] at hd
    exact h2.2 _ x d hx hd
theorem gnv {i : Nat} {v v' : V} {σ : L2.St} {H : Hp} {k : L2.St → Hp → Prop} (e : v = v') (h : gName i v' σ H k) : gName i v σ H k := e ▸ h
theorem cutV_drop {xs : List V} {k : Nat} (h : k ≤ xs.length) : cutV xs (some (k : Int)) none = xs.drop k := by
  unfold cutV
  rw [HT.sIx_nat, HT.sIx_none, Nat.min_eq_left h]
  exact List.take_of_length_le (by rw [List.length_drop]; omega)
theorem cutV_len {xs : List V} {lo hi : Option Int} : (cutV xs lo hi).length ≤ xs.length := by
  unfold cutV
  rw [List.length_take, List.length_drop]
  omega
section
variable {σ : L2.St} {H : Hp} {ta tb : TE} {xs ys : List V}
theorem el_catL (ha : EvL ta σ H xs) (hb : EvL tb σ H ys) (hz : xs.length + ys.length ≤ 100000) : EvL (tOp rCat ta tb) σ H (xs ++ ys) := fun H1 e Q q =>
  ha H1 e _ fun p H2 hp e2 h2 => hb H2 (e.trans e2) _ fun p' H3 hp' e3 h3 => ⟨p, p', xs, ys, rfl, rfl, e3 _ _ h2, h3, sz_of hz, fun l hl => q l _ (fresh_back (e2.trans e3) hl) ((e2.trans e3).trans (Ex.new hl)) upd_same⟩
theorem el_repL {n : Int} (ha : EvL ta σ H xs) (hb : ∀ H1, Ex H H1 → Ev tb σ H1 (.int n)) (h1 : -(2 ^ 63) ≤ n) (h2 : n < 2 ^ 63) (hz : xs.length * n.toNat ≤ 100000) : EvL (tOp rRep ta tb) σ H (List.replicate n.toNat xs).flatten := fun H1 e Q q =>
  ha H1 e _ fun p H2 hp e2 h3 => hb H2 (e.trans e2) H2 (Ex.refl _) _ fun H3 e3 => ⟨p, n, xs, rfl, rfl, e3 _ _ h3, h1, h2, sz_of hz, fun l hl => q l _ (fresh_back (e2.trans e3) hl) ((e2.trans e3).trans (Ex.new hl)) upd_same⟩
/-- items[:i] + [x] + items[j:] -/
theorem el_mid {a : Addr} {i j : Int} {te tf tg : TE} {x : V} (h : Ev ta σ H (.ref a)) (hs : SqL K H a xs) (h1 : Ev te σ H (.int i)) (h2 : Ev tf σ H x) (h3 : Ev tg σ H (.int j)) (hl : xs.length ≤ 1000) :
    EvL (tOp rCat (tOp rCat (tSl (rSlL K) ta tNoPart (tPart te)) (tLst (tCons tf tNil))) (tSl (rSlL K) ta (tPart tg) tNoPart)) σ H (cutV xs none (some i) ++ [x] ++ cutV xs (some j) none) := by
  have c1 := @cutV_len xs none (some i)
  have c2 := @cutV_len xs (some j) none
  refine el_catL (el_catL (el_sl h eo_none (eo_some h1) hs) (el_lst (ea_cons h2 ea_nil) (by show 1 ≤ 100000; decide)) ?_) (el_sl h (eo_some h3) eo_none hs) ?_
  · rw [List.length_singleton]; omega
  · rw [List.length_append, List.length_singleton]; omega
end
theorem ints_mid {ns : List Int} {v : Int} {i j : Nat} (hj : j ≤ ns.length) : cutV (ns.map V.int) none (some (i : Int)) ++ [V.int v] ++ cutV (ns.map V.int) (some (j : Int)) none = (ns.take i ++ [v] ++ ns.drop j).map V.int := by
  rw [cutV_take, cutV_drop (by rw [List.length_map]; exact hj), List.map_append, List.map_append, List.map_take, List.map_drop]
  rfl
def Cb (n k : Nat) : Int := PySem.W.mcComb (n : Int) (k : Int)
abbrev Pr := Int × List Int
def stepP (w rest : Nat) (T : List (List Pr)) (b : Pr) (size : Nat) : Pr :=
  if b.1 < ((T.getD (w - size - 1) []).getD rest (0, [])).1 * Cb w size then (((T.getD (w - size - 1) []).getD rest (0, [])).1 * Cb w size, (size : Int) :: ((T.getD (w - size - 1) []).getD rest (0, [])).2) else b
def bestP (T : List (List Pr)) (w rest : Nat) : Pr := (List.range (w - rest - 2)).foldl (fun b i => stepP w rest T b (i + 1)) (Cb w (w - rest), [((w - rest : Nat) : Int)])
def toldP : Nat → List (List Pr)
  | 0 => []
  | k + 1 => toldP k ++ [(List.range k).map (bestP (toldP k) k)]
def stepR (T : List (List Int)) (k left : Nat) (b : Int) (size : Nat) : Int :=
  if k = left + size then (if Cb k size > b then Cb k size else b)
  else if left + size + 1 < k then (if Cb k size * (T.getD (k - size - 1) []).getD left 0 > b then Cb k size * (T.getD (k - size - 1) []).getD left 0 else b) else b
def bestR (T : List (List Int)) (k left : Nat) : Int := (List.range (k - left)).foldl (fun b i => stepR T k left b (i + 1)) 0
def rT : Nat → List (List Int)
  | 0 => []
  | k + 1 => rT k ++ [(List.range (k + 1)).map (bestR (rT k) k)]
def vP (k rest : Nat) : Int := (bestP (toldP k) k rest).1
def vR (k left : Nat) : Int := bestR (rT k) k left
end
end L2.U


set_option Elab.async false
set_option linter.all false
set_option maxRecDepth 100000
set_option maxHeartbeats 4000000
namespace L2.U
open PySem PySem.Spec PyProof.Rows Evl
section
variable {P : Program} {w : World} {K : PySem.W.Frag} {mg : Str → Option Value} {base : Heap}
theorem ne_of_none' {H : Hp} {a p : Addr} {o : HO} (h : H a = some o) (hp : H p = none) : p ≠ a := by rintro rfl; rw [h] at hp; cases hp
def rowP (k : Nat) : List Pr := (List.range k).map (bestP (toldP k) k)
theorem toldP_len : ∀ m, (toldP m).length = m
  | 0 => rfl
  | k + 1 => by rw [toldP, List.length_append, toldP_len k]; rfl
theorem toldP_at : ∀ (m k : Nat), k < m → (toldP m)[k]? = some (rowP k)
  | m + 1, k, h => by
    rw [toldP]
    by_cases c : k < m
    · rw [List.getElem?_append_left (by rw [toldP_len]; exact c)]
      exact toldP_at m k c
    · obtain rfl : k = m := by omega
      rw [List.getElem?_append_right (by rw [toldP_len]; exact Nat.le_refl _), toldP_len, Nat.sub_self]
      rfl
theorem rowP_len (k : Nat) : (rowP k).length = k := by unfold rowP; rw [List.length_map, List.length_range]
theorem rowP_at {k r : Nat} (h : r < k) : (rowP k)[r]? = some (bestP (toldP k) k r) := by unfold rowP; rw [List.getElem?_map, List.getElem?_range h]; rfl
theorem best_in : ∀ k : Fin 25, ∀ r : Fin 25, r.val < k.val → (bestP (toldP k.val) k.val r.val).2.length ≤ 24 ∧ 1 ≤ (bestP (toldP k.val) k.val r.val).1 ∧ (bestP (toldP k.val) k.val r.val).1 ≤ 10000000000000000000000000 := by decide +kernel
theorem cb_in : ∀ n : Fin 25, ∀ k : Fin 25, 0 ≤ Cb n.val k.val ∧ Cb n.val k.val < 2 ^ 40 := by decide +kernel
def prD (e : Pr) : PyData := .tuple [.int e.1, .tuple (e.2.map PyData.int)]
def rowD2 (r : List Pr) : PyData := .list (r.map prD)
def pTab (T : List (List Pr)) : PyData := .list (T.map rowD2)
theorem rd_itup {ok : Addr → Prop} {H : Hp} {m : Nat} {x : V} {t : List Int} (h : Rd K ok H m x (.tuple (t.map PyData.int))) : ∃ o, x = .ref o ∧ ok o ∧ SqT K H o (t.map V.int) := by
  generalize hd : (PyData.tuple (t.map PyData.int)) = d at h
  cases h with
  | tup h2 ha2 hl2 hz2 all2 =>
    cases hd
    rename_i b xs
    have e : xs = t.map V.int := by
      apply List.ext_getElem?
      intro i
      by_cases hi : i < xs.length
      · have hx := List.getElem?_eq_getElem hi
        have ht : i < t.length := by rw [List.length_map] at hl2; omega
        have r := all2 i _ (.int t[i]) hx (by rw [List.getElem?_map, List.getElem?_eq_getElem ht]; rfl)
        rw [hx, List.getElem?_map, List.getElem?_eq_getElem ht]
        generalize xs[i] = y at r ⊢
        cases r
        rfl
      · rw [List.getElem?_eq_none (by omega), List.getElem?_eq_none (by rw [List.length_map] at hl2 ⊢; omega)]
    rw [e] at h2
    exact ⟨b, rfl, ha2, h2⟩
  | _ => cases hd
theorem rd_prD {ok : Addr → Prop} {H : Hp} {m : Nat} {x : V} {e : Pr} (h : Rd K ok H m x (prD e)) : ∃ t s, x = .ref t ∧ ok t ∧ ok s ∧ SqT K H t [.int e.1, .ref s] ∧ SqT K H s (e.2.map V.int) := by
  unfold prD at h
  cases h with
  | tup h ha hl hz all =>
    rename_i t xs
    match xs, hl, all with
    | [x, y], _, all =>
      have h0 := all 0 x (.int e.1) rfl rfl
      have h1 := all 1 y (.tuple (e.2.map PyData.int)) rfl rfl
      cases h0
      obtain ⟨s, rfl, os, hs⟩ := rd_itup h1
      exact ⟨t, s, rfl, ha, os, h, hs⟩
theorem rd_row {ok : Addr → Prop} {H : Hp} {m : Nat} {x : V} {r : List Pr} (h : Rd K ok H m x (rowD2 r)) : ∃ b us, x = .ref b ∧ H b = some (.lst us) ∧ us.length = r.length ∧ ∀ (i : Nat) (e : Pr), r[i]? = some e → ∃ t s, us[i]? = some (.ref t) ∧ SqT K H t [.int e.1, .ref s] ∧ SqT K H s (e.2.map V.int) := by
  unfold rowD2 at h
  generalize hd : (PyData.list (r.map prD)) = d at h
  cases h with
  | lst h ha hl hz all =>
    cases hd
    rw [List.length_map] at hl
    refine ⟨_, _, rfl, h, hl, fun i e he => ?_⟩
    have hi := (List.getElem?_eq_some_iff.mp he).1
    have hx := List.getElem?_eq_getElem (show i < _ by rw [hl]; exact hi)
    have rr := all i _ (prD e) hx (by rw [List.getElem?_map, he]; rfl)
    obtain ⟨t, s, e1, _, _, h1, h2⟩ := rd_prD rr
    exact ⟨t, s, by rw [hx, e1], h1, h2⟩
  | _ => cases hd
theorem rd_pt {ok : Addr → Prop} {H : Hp} {m : Nat} {x : V} {T : List (List Pr)} (h : Rd K ok H m x (pTab T)) : ∃ p vs, x = .ref p ∧ H p = some (.lst vs) ∧ vs.length = T.length ∧ ∀ (i : Nat) (r : List Pr), T[i]? = some r → ∃ v, vs[i]? = some v ∧ Rd K ok H (m - 1) v (rowD2 r) := by
  unfold pTab at h
  generalize hd : (PyData.list (T.map rowD2)) = d at h
  cases h with
  | lst h ha hl hz all =>
    cases hd
    rw [List.length_map] at hl
    refine ⟨_, _, rfl, h, hl, fun i r hr => ?_⟩
    have hi := (List.getElem?_eq_some_iff.mp hr).1
    have hx := List.getElem?_eq_getElem (show i < _ by rw [hl]; exact hi)
    exact ⟨_, hx, all i _ (rowD2 r) hx (by rw [List.getElem?_map, hr]; rfl)⟩
  | _ => cases hd
def bI (w r i : Nat) : Pr := (List.range i).foldl (fun b i => stepP w r (toldP w) b (i + 1)) (Cb w (w - r), [((w - r : Nat) : Int)])
theorem bI_step (w r i : Nat) : bI w r (i + 1) = stepP w r (toldP w) (bI w r i) (i + 1) := by
  unfold bI
  rw [List.range_succ, List.foldl_append]
  rfl
theorem told_get {w r : Nat} {d : Pr} {k : Nat} (hk : k < w) (hr : r < k) : ((toldP w).getD k []).getD r d = bestP (toldP k) k r := by
  rw [List.getD_eq_getElem?_getD (l := toldP w), toldP_at w k hk]
  show (rowP k).getD r d = _
  rw [List.getD_eq_getElem?_getD, rowP_at hr]
  rfl
theorem bI_len {w r : Nat} (hw : w ≤ 24) : ∀ i, i + 2 ≤ w - r → (bI w r i).2.length ≤ 25
  | 0, _ => by show [_].length ≤ 25; exact Nat.le_add_left 1 24
  | i + 1, h => by
    rw [bI_step]
    unfold stepP
    rw [told_get (show w - (i + 1) - 1 < w by omega) (show r < w - (i + 1) - 1 by omega)]
    split
    · have := (best_in ⟨w - (i + 1) - 1, by omega⟩ ⟨r, by omega⟩ (by show r < w - (i + 1) - 1; omega)).1
      show (_ :: _).length ≤ 25
      rw [List.length_cons]
      simp only at this
      omega
    · exact bI_len hw i (by omega)
theorem rd_new {ok : Addr → Prop} {H : Hp} {t s : Addr} {e : Pr} (ht : SqT K H t [.int e.1, .ref s]) (ot : ok t) (hs : SqT K H s (e.2.map V.int)) (os : ok s) (hl : e.2.length ≤ 900) : Rd K ok H 2 (.ref t) (prD e) := by
  refine .tup ht ot rfl (by show 2 ≤ 900; omega) fun i x d hx hd => ?_
  match i, hx, hd with
  | 0, hx, hd => cases hx; cases hd; exact .int _
  | 1, hx, hd =>
    cases hx; cases hd
    have rd := rdl_ints (K := K) (ok := ok) (H := H) (n := 0) e.2
    exact .tup hs os rd.1 (by rw [List.length_map]; exact hl) rd.2
def spBest (K : PySem.W.Frag) : Sp := fun vs H Q _ => ∃ (w r m : Nat) (p : Addr) (ok : Addr → Prop), vs = [.int (w : Int), .int (r : Int), .ref p] ∧ r < w ∧ w ≤ 24 ∧ Rd K ok H m (.ref p) (pTab (toldP w)) ∧
  ∀ q H', Ex H H' → Rd K (fun a => H a = none) H' 2 (.ref q) (prD (bestP (toldP w) w r)) → Q (.ref q) H'
theorem ok_best (T : TK K mg) : FnOk P w K mg base CX0 1 T.best.a T.best.fd ["wires", "rest", "told"] (spBest K) := by
  refine T.best.F.ok sc_best (fun vs H Q E h => ?_) (fun cdv A outer s H vs Q E hr h => ?_)
  · obtain ⟨w, r, m, p, ok, rfl, _⟩ := h; rfl
  obtain ⟨w, r, m, p, ok, rfl, hrw, hw, hp, q⟩ := h
  refine ⟨_, (pss_cons (ps_set (i := 3) sc_best.nd rfl (Or.inl rfl) (pe_op op_sub (pv 0) (pv 1)))
    (pss_cons (ps_set (i := 4) sc_best.nd rfl (Or.inl rfl) (pe_tup (pa_cons (pe_callBfun cr_comb rfl T.c_comb (pa_cons (pv 0) (pa_cons (pv 3) pa_nil))) (pa_cons (pe_tup (pa_cons (pv 3) pa_nil)) pa_nil))))
    (pss_cons (ps_for PassesOwn.never rfl (pi_range2 rfl T.z_range (pa_cons pe_int (pa_cons (pe_op op_sub (pv 3) pe_int) pa_nil))) (pg_name (i := 5) sc_best.nd rfl (Or.inl rfl)) (pss_cons (ps_asg (pe_ix (kixl K) (pe_ix (kixl K) (pv 2) (pe_op op_sub (pe_op op_sub (pv 0) (pv 5)) pe_int) (fun _ _ => rfl)) (pv 1) (fun _ _ => rfl)) (pg_tup (by rfl) (pgs_cons (pg_name (i := 6) sc_best.nd rfl (Or.inl rfl)) (pgs_cons (pg_name (i := 7) sc_best.nd rfl (Or.inl rfl)) pgs_nil))))
    (pss_cons (ps_aug (i := 6) sc_best.nd rfl (Or.inl rfl) (pe_callBfun cr_comb rfl T.c_comb (pa_cons (pv 0) (pa_cons (pv 5) pa_nil))) ip_mulC)
    (pss_one (ps_if (pt_cmpR op_gt (pv 6) (pe_ix (kixt K) (pv 4) pe_int (fun _ _ => rfl)) (nomark _)) (pss_one (ps_set (i := 4) sc_best.nd rfl (Or.inl rfl) (pe_tup (pa_cons (pv 6) (pa_cons (pe_op (kcatA K) (pe_tup (pa_cons (pv 5) pa_nil)) (pv 7)) pa_nil))))) pss_nil)))))
    (pss_one (ps_ret (pv 4)))))), ?_⟩
  obtain ⟨p', vs, hpe, hvs, _, pall⟩ := rd_pt hp
  cases hpe
  have cb0 := cb_in ⟨w, by omega⟩ ⟨w - r, by omega⟩
  simp only at cb0
  refine ⟨_, rfl, _, rfl, _, _, rfl, rfl, _, rfl, _, rfl, _, _, rfl, by omega, by omega, by omega, by omega, _, rfl, one_le, fun s0 hs0 => ⟨two_le, fun t0 ht0 => ?_⟩⟩
  have x0 := Ex.new (o := .tup [.int ((w : Int) - (r : Int))]) hs0
  have x1 := Ex.new (o := .tup [.int (PySem.W.mcComb (w : Int) ((w : Int) - (r : Int))), .ref s0]) ht0
  have t00 : H t0 = none := fresh_back x0 ht0
  have r0 : Rd K (fun a => H a = none) _ 2 (.ref t0) (prD (bI w r 0)) := rd_new (e := bI w r 0) (SqT.of (by
    rw [upd_same]
    show some (HO.tup [V.int (PySem.W.mcComb (w : Int) ((w : Int) - (r : Int))), .ref s0]) = some (.tup [.int (Cb w (w - r)), .ref s0])
    unfold Cb
    rw [show ((w - r : Nat) : Int) = (w : Int) - (r : Int) by omega])) t00 (SqT.of (x1 _ _ (by
    rw [upd_same]
    show some (HO.tup [V.int ((w : Int) - (r : Int))]) = some (.tup ([((w - r : Nat) : Int)].map V.int))
    rw [show ((w - r : Nat) : Int) = (w : Int) - (r : Int) by omega]
    rfl))) hs0 (by show 1 ≤ 900; omega)
  have x01 := x0.trans x1
  generalize upd (upd H s0 _) t0 _ = H1 at x01 r0 ⊢
  refine ⟨_, rfl, _, _, rfl, rfl, 1, (w : Int) - (r : Int) - 1, rfl, ⟨by omega, by omega, by omega, by omega⟩, for_range (lo := 1) (n := ((w : Int) - (r : Int) - 1 - 1).toNat) (fun i σ H' => Ex H H' ∧ ∃ (t : Addr) (v5 v6 v7 : Option V), Rd K (fun a => H a = none) H' 2 (.ref t) (prD (bI w r i)) ∧ σ = [some (.int (w : Int)), some (.int (r : Int)), some (.ref p), some (.int ((w : Int) - (r : Int))), some (.ref t), v5, v6, v7]) ⟨x01, t0, _, _, _, r0, rfl⟩ ?_ ?_⟩
  · rintro i σ H' hi ⟨e, t, v5, v6, v7, rt, rfl⟩
    have hk : r < w - (i + 1) - 1 := by omega
    have hk2 : w - (i + 1) - 1 < w := by omega
    obtain ⟨v, hv, rv⟩ := pall (w - (i + 1) - 1) (rowP (w - (i + 1) - 1)) (toldP_at w _ hk2)
    obtain ⟨b, us, rfl, hb, _, uall⟩ := rd_row rv
    obtain ⟨u, s, hu, h1, h2⟩ := uall r (bestP (toldP (w - (i + 1) - 1)) (w - (i + 1) - 1) r) (rowP_at hk)
    have bi := best_in ⟨w - (i + 1) - 1, by omega⟩ ⟨r, by omega⟩ hk
    simp only at bi
    have lb := bI_len (r := r) hw i (by omega)
    have st := bI_step w r i
    unfold stepP at st
    rw [told_get hk2 hk] at st
    generalize bestP (toldP (w - (i + 1) - 1)) (w - (i + 1) - 1) r = en at h1 h2 bi st hu
    have cb1 := cb_in ⟨w, by omega⟩ ⟨i + 1, by omega⟩
    simp only at cb1
    have ec : PySem.W.mcComb (w : Int) (1 + (i : Int)) = Cb w (i + 1) := by unfold Cb; rw [show ((i + 1 : Nat) : Int) = 1 + (i : Int) by omega]
    refine ⟨_, rfl, _, rfl, _, rfl, _, _, rfl, rfl, _, _, rfl, rfl, p, vs, _, .ref b, rfl, rfl, SqL.of (e _ _ hvs), at_of (show (w : Int) - (1 + (i : Int)) - 1 = ((w - (i + 1) - 1 : Nat) : Int) by omega) hv, _, rfl, b, us, _, .ref u, rfl, rfl, SqL.of (e _ _ hb), atI_nat hu, u, _, rfl, ex_t e h1, rfl, _, _, rfl, _, _, rfl, rfl, ?_⟩
    refine ⟨_, rfl, _, rfl, _, rfl, _, _, rfl, by omega, by omega, by omega, by omega, _, _, rfl, rfl, .inr ⟨by rw [ec]; omega, by rw [ec]; omega⟩, ?_⟩
    obtain ⟨t', s', hte, ot, os, ht1, ht2⟩ := rd_prD rt
    cases hte
    refine ⟨_, rfl, _, rfl, t, _, 0, .int (bI w r i).1, rfl, rfl, ht1, rfl, _, _, rfl, rfl, _, rfl, ite2 (fun c => ?_) (fun c => ?_)⟩
    · have c := of_decide_eq_true c
      rw [ec] at c
      rw [if_pos c] at st
      refine ⟨_, rfl, _, rfl, one_le, fun y hy => ⟨_, rfl, y, s, _, en.2.map V.int, rfl, rfl, SqT.of upd_same, ex_t (Ex.new hy) (ex_t e h2), Nat.le_of_lt (small1000 (by rw [List.length_map]; show 1 + _ ≤ 1000; omega)), (fun z => by cases z), fun _ z => ?_, fun _ _ z hz => ?_⟩⟩
      · have xy := Ex.new (o := .tup [.int (1 + (i : Int))]) hy
        refine ⟨two_le, fun g hg => ?_⟩
        have xg := Ex.new (o := .tup [.int (en.1 * PySem.W.mcComb (w : Int) (1 + (i : Int))), .ref y]) hg
        refine ⟨(e.trans xy).trans xg, g, _, _, _, ?_, rfl⟩
        rw [st]
        refine rd_new (SqT.of (by rw [upd_same, ec])) (fresh_back e (fresh_back xy hg)) (SqT.of (xg _ _ (by
          rw [upd_same]
          have : en.2 = [] := List.map_eq_nil_iff.mp z
          show some (HO.tup [V.int (1 + (i : Int))]) = some (.tup (((((i + 1 : Nat) : Int)) :: en.2).map V.int))
          rw [this, show ((i + 1 : Nat) : Int) = 1 + (i : Int) by omega]
          rfl))) (fresh_back e hy) (by show (_ :: _).length ≤ 900; rw [List.length_cons]; omega)
      · have xy := Ex.new (o := .tup [.int (1 + (i : Int))]) hy
        have xz := Ex.new (o := .tup ([.int (1 + (i : Int))] ++ en.2.map V.int)) hz
        refine ⟨two_le, fun g hg => ?_⟩
        have xg := Ex.new (o := .tup [.int (en.1 * PySem.W.mcComb (w : Int) (1 + (i : Int))), .ref z]) hg
        refine ⟨((e.trans xy).trans xz).trans xg, g, _, _, _, ?_, rfl⟩
        rw [st]
        refine rd_new (SqT.of (by rw [upd_same, ec])) (fresh_back e (fresh_back xy (fresh_back xz hg))) (SqT.of (xg _ _ (by
          rw [upd_same]
          show some (HO.tup ([V.int (1 + (i : Int))] ++ en.2.map V.int)) = some (.tup (((((i + 1 : Nat) : Int)) :: en.2).map V.int))
          rw [show ((i + 1 : Nat) : Int) = 1 + (i : Int) by omega]
          rfl))) (fresh_back e (fresh_back xy hz)) (by show (_ :: _).length ≤ 900; rw [List.length_cons]; omega)
    · have c := of_decide_eq_false (Bool.eq_false_iff.mpr c)
      rw [ec] at c
      rw [if_neg c] at st
      refine ⟨e, t, _, _, _, ?_, rfl⟩
      rw [st]
      exact rt
  · rintro σ H' ⟨e, t, v5, v6, v7, rt, rfl⟩
    rw [show ((w : Int) - (r : Int) - 1 - 1).toNat = w - r - 2 by omega] at rt
    exact ⟨_, rfl, q t H' e rt⟩
end
end L2.U


set_option Elab.async false
set_option linter.all false
set_option maxRecDepth 100000
set_option maxHeartbeats 4000000
namespace L2.U
open PySem PySem.Spec PyProof.Rows Evl
section
variable {P : Program} {w : World} {K : PySem.W.Frag} {mg : Str → Option Value} {base : Heap}
section
variable {xs : List V} {a : Addr} {g : TG} {tb : TS} {D : Ends} {σ : L2.St} {H H0 : Hp} {i : Nat}
theorem for_seqV (hi : σ[i]? = some (some (.ref a))) (hs : SqL K H0 a xs ∨ SqT K H0 a xs) (e0 : Ex H0 H) (Pv : Nat → L2.St → Hp → Prop) (h0 : Pv 0 σ H) (hE : ∀ i σ H', Pv i σ H' → Ex H0 H')
    (hst : ∀ i x σ H, xs[i]? = some x → Pv i σ H → g x σ H fun σ2 H2 => tb { D with nx := Pv (i + 1), ct := Pv (i + 1), bk := D.nx } σ2 H2) (hd : ∀ σ H, Pv xs.length σ H → D.nx σ H) : tFor (iSeq K (tVar i)) g tb D σ H :=
  hs.elim (fun h => .inl ⟨_, hi, a, rfl, ⟨_, ex_l e0 h⟩, for_list (xs := xs) Pv h0 (fun i σ H' _ p => ex_l (hE i σ H' p) h) hst hd⟩)
    (fun h => .inr ⟨_, hi, a, rfl, ⟨_, ex_t e0 h⟩, for_tup (xs := xs) Pv h0 (fun i σ H' _ p => ex_t (hE i σ H' p) h) hst hd⟩)
theorem for_revV {F : Addr} {o : HO} (hi : σ[i]? = some (some (.ref a))) (hs : SqL K H a xs ∨ SqT K H a xs) (hF : H F = some o) (Pv : Nat → L2.St → Hp → Prop) (h0 : ∀ H', Ex H H' → Pv 0 σ H')
    (hst : ∀ (Pr : Hp → Prop), (∀ G G', But F G G' → Pr G → Pr G') → ∀ i x σ H, xs.reverse[i]? = some x → Pv i σ H → Pr H → g x σ H fun σ2 H2 => tb { D with nx := fun σ H => Pv (i + 1) σ H ∧ Pr H, ct := fun σ H => Pv (i + 1) σ H ∧ Pr H, bk := D.nx } σ2 H2) (hd : ∀ σ H, Pv xs.length σ H → D.nx σ H) : tFor (iSeq K (tRevS K (tVar i))) g tb D σ H :=
  hs.elim (fun h => .inl ⟨_, hi, a, xs, rfl, .inl ⟨h, fun r hr => by
      have rF : r ≠ F := by rintro rfl; rw [hF] at hr; cases hr
      have hl : xs.reverse.length = xs.length := List.length_reverse
      exact ⟨r, rfl, ⟨_, SqL.of upd_same⟩, for_list (xs := xs.reverse) (fun i σ H => Pv i σ H ∧ SqL K H r xs.reverse) ⟨h0 _ (Ex.new hr), SqL.of upd_same⟩ (fun i σ H' _ p => p.2) (fun i x σ H hx p => hst (fun G => SqL K G r xs.reverse) (fun _ _ k h => k.sql rF h) i x σ H hx p.1 p.2) (fun σ H p => hd σ H (hl ▸ p.1))⟩⟩⟩)
    (fun h => .inr ⟨_, hi, a, xs, rfl, .inr ⟨h, fun r hr => by
      have rF : r ≠ F := by rintro rfl; rw [hF] at hr; cases hr
      have hl : xs.reverse.length = xs.length := List.length_reverse
      exact ⟨r, rfl, ⟨_, SqT.of upd_same⟩, for_tup (xs := xs.reverse) (fun i σ H => Pv i σ H ∧ SqT K H r xs.reverse) ⟨h0 _ (Ex.new hr), SqT.of upd_same⟩ (fun i σ H' _ p => p.2) (fun i x σ H hx p => hst (fun G => SqT K G r xs.reverse) (fun _ _ k h => k.sqt rF h) i x σ H hx p.1 p.2) (fun σ H p => hd σ H (hl ▸ p.1))⟩⟩⟩)
end
def spMostTold (K : PySem.W.Frag) : Sp := fun vs H Q _ => ∃ m : Nat, vs = [.int (m : Int)] ∧ m ≤ 24 ∧ ∀ p H', Ex H H' → Rd K (fun a => H a = none) H' 4 (.ref p) (pTab (toldP (m + 1))) → Q (.ref p) H'
theorem ok_most_told (T : TK K mg) : FnOk P w K mg base CX0 2 T.most_told.a T.most_told.fd ["most"] (spMostTold K) := by
  refine T.most_told.F.ok sc_most_told (fun vs H Q E h => ?_) (fun cdv A outer s H vs Q E hr h => ?_)
  · obtain ⟨m, rfl, _⟩ := h; rfl
  obtain ⟨m, rfl, hm, q⟩ := h
  refine ⟨_, (pss_cons (ps_set (i := 1) sc_most_told.nd rfl (Or.inr rfl) (pe_lst pa_nil))
    (pss_cons (ps_for PassesOwn.never rfl (pi_range1 rfl T.z_range (pa_cons (pe_op op_add (pv 0) pe_int) pa_nil)) (pg_name (i := 2) sc_most_told.nd rfl (Or.inr rfl)) (pss_one (ps_expr (pe_bm PySem.F.plainAttrs_list PySem.F.slot_list_append PySem.F.type_list_append mt_append (pv 1) (pa_cons (pe_lc (own := [("rest", 3)]) (g := gName 3) (by rfl) sc_most_told.nd (pi_range1 rfl T.z_range (pa_cons (pv 2) pa_nil)) (blkOk_by (own := [("rest", 3)]) (N := ["most", "told", "wires", "rest"]) (sc := defScope s_most_told) (by decide +kernel)) (fun _ _ _ _ _ => (pg_name (i := 3) sc_most_told.nd rfl (Or.inl rfl))) (fun _ _ _ _ _ => pts_nil) (fun _ _ _ _ _ => (pe_call (ok_best T) (hr.mono (by decide)) rfl T.best.m T.best.F.kp T.best.b .nil pass0 (pa_cons (pv 2) (pa_cons (pv 3) (pa_cons (pv 1) pa_nil)))))) pa_nil)))))
    (pss_one (ps_ret (pv 1))))), ?_⟩
  refine ⟨Nat.zero_le _, fun F hF => ?_⟩
  refine ⟨_, rfl, _, _, rfl, rfl, (m : Int) + 1, rfl, by omega, by omega, for_range (lo := 0) (n := ((m : Int) + 1).toNat) (fun i σ H' => Ex H H' ∧ ∃ (xs : List V) (v2 : Option V), H' F = some (.lst xs) ∧ xs.length = i ∧ RdL K (fun a => H a = none ∧ a ≠ F) H' 3 xs ((toldP i).map rowD2) ∧ σ = [some (.int (m : Int)), some (.ref F), v2, none]) ⟨Ex.new hF, [], _, upd_same, rfl, RdL.nil, rfl⟩ ?_ ?_⟩
  · rintro i σ H' hi ⟨e, xs, v2, hFF, hl, rl, rfl⟩
    rw [Int.zero_add]
    refine ⟨_, rfl, .inl ⟨rfl, _, SqL.of hFF⟩, ?_⟩
    have rF : Rd K (fun _ => True) H' 4 (.ref F) (pTab (toldP i)) := .lst hFF trivial rl.1 (by omega) fun i x d hx hd => (rl.2 i x d hx hd).of fun _ _ => trivial
    refine lc_rd (K := K) (σ := [some (.int (m : Int)), some (.ref F), some (.int (i : Int)), none]) (H := H') (n := (i : Int)) (m := 2) (vs := [3]) (d := fun r => prD (bestP (toldP i) i r)) (ea_cons (ev_var rfl) ea_nil) ⟨by omega, by omega⟩ (fun _ => rfl) (fun r H1 e1 hr Q1 q1 => ⟨_, rfl, _, rfl, _, rfl, i, r, 4, F, _, rfl, by omega, by omega, rF.ex e1, fun q H' e' r' => q1 _ _ e' r'⟩) (fun p H2 e2 r2 => ?_)
    have hp2 : Rd K (fun a => H' a = none) H2 3 (.ref p) (rowD2 (rowP i)) := by
      unfold rowD2 rowP
      rw [List.map_map]
      rw [Int.toNat_natCast] at r2
      exact r2
    have F2 := e2 _ _ hFF
    refine ⟨F, xs, .ref p, rfl, rfl, F2, small1000 (by omega), (e.trans e2).mut hF, xs ++ [.ref p], _, upd_same, by rw [List.length_append, hl]; rfl, ?_, rfl⟩
    rw [toldP, List.map_append]
    refine RdL.snoc ((rl.ex e2).but (b := F) But.upd (fun a ha => ha.2)) ?_
    exact (hp2.of fun a ha => ⟨fresh_back e ha, fun z => by rw [z, hFF] at ha; cases ha⟩).but (b := F) But.upd (fun a ha => ha.2)
  · rintro σ H' ⟨e, xs, v2, hFF, hl, rl, rfl⟩
    rw [show ((m : Int) + 1).toNat = m + 1 by omega] at rl hl
    exact ⟨_, rfl, q F H' e (.lst hFF hF rl.1 (by omega) fun i x d hx hd => (rl.2 i x d hx hd).of fun a ha => ha.1)⟩
def lastO (x : Int) (k : Nat) : Option Int := if leftTo x (vP k) k < 0 then none else some (leftTo x (vP k) k)
def spMostRest (K : PySem.W.Frag) : Sp := fun vs H Q _ => ∃ (x : Int) (v : V) (k m : Nat) (ok : Addr → Prop), vs = [.int x, v] ∧ Rd K ok H m v (rowD2 (rowP k)) ∧ k ≤ 24 ∧ ∀ H', Ex H H' → Q (optV (lastO x k)) H'
theorem ok_most_rest (T : TK K mg) : FnOk P w K mg base CX0 1 T.most_rest.a T.most_rest.fd ["number", "by_rest"] (spMostRest K) := by
  refine T.most_rest.F.ok sc_most_rest (fun vs H Q E h => ?_) (fun cdv A outer s H vs Q E hr h => ?_)
  · obtain ⟨x, v, k, m, ok, rfl, _⟩ := h; rfl
  obtain ⟨x, v, k, m, ok, rfl, hv, hk, q⟩ := h
  refine ⟨_, (pss_cons (ps_for PassesOwn.never rfl (pi_range3 rfl T.z_range (pa_cons (pe_op op_sub (pe_callB (klen K) (by rfl) T.z_len (by decide +kernel) (pa_cons (pv 1) pa_nil)) pe_int) (pa_cons (pe_un un_neg pe_int) (pa_cons (pe_un un_neg pe_int) pa_nil)))) (pg_name (i := 2) sc_most_rest.nd rfl (Or.inl rfl)) (pss_one (ps_if (pt_cmpR op_ge (pe_ix (kixt K) (pe_ix (kixl K) (pv 1) (pv 2) (fun _ _ => rfl)) pe_int (fun _ _ => rfl)) (pv 0) (nomark _)) (pss_one (ps_ret (pv 2))) pss_nil)))
    (pss_one (ps_ret pe_non))), ?_⟩
  obtain ⟨b, us, rfl, hb, hul, uall⟩ := rd_row hv
  rw [rowP_len] at hul
  have hrg : RgC ((k : Int) - 1) (-1) (-1) k := by
    have := RgC.neg (i := (k : Int) - 1) (j := -1) (by omega) (by omega) (by omega) (by omega)
    rw [show ((k : Int) - 1 - -1).toNat = k by omega] at this
    exact this
  refine ⟨_, rfl, _, k, rfl, .inl ⟨us, SqL.of hb, hul.symm⟩, _, _, rfl, rfl, 1, rfl, 1, rfl, (k : Int) - 1, -1, -1, k, rfl, hrg, for_rangeC (lo := (k : Int) - 1) (c := -1) (n := k) (fun i σ H' => H' = H ∧ leftTo x (vP k) k = leftTo x (vP k) (k - i) ∧ ∃ v2 : Option V, σ = [some (.int x), some (.ref b), v2]) ⟨rfl, rfl, _, rfl⟩ ?_ ?_⟩
  · rintro i σ H' hi ⟨rfl, hL, v2, rfl⟩
    obtain ⟨t, s, hu, h1, h2⟩ := uall (k - 1 - i) _ (rowP_at (show k - 1 - i < k by omega))
    have ki : k - i = (k - 1 - i) + 1 := by omega
    have hL2 : leftTo x (vP k) k = if x ≤ vP k (k - 1 - i) then ((k - 1 - i : Nat) : Int) else leftTo x (vP k) (k - 1 - i) := by rw [hL, ki]; rfl
    refine ⟨_, rfl, _, rfl, b, us, _, .ref t, rfl, rfl, SqL.of hb, at_of (show (k : Int) - 1 + (i : Int) * -1 = ((k - 1 - i : Nat) : Int) by omega) hu, t, _, 0, .int _, rfl, rfl, h1, rfl, _, rfl, _, _, rfl, rfl, _, rfl, ite2 (fun c => ?_) (fun c => ?_)⟩
    · have c : x ≤ vP k (k - 1 - i) := of_decide_eq_true c
      rw [if_pos c] at hL2
      refine ⟨_, rfl, ?_⟩
      have := q H' (Ex.refl _)
      unfold lastO at this
      rw [hL2, if_neg (by omega)] at this
      rw [show (k : Int) - 1 + (i : Int) * -1 = ((k - 1 - i : Nat) : Int) by omega]
      exact this
    · have c : ¬ x ≤ vP k (k - 1 - i) := of_decide_eq_false (Bool.eq_false_iff.mpr c)
      rw [if_neg c] at hL2
      exact ⟨rfl, by rw [hL2, show k - (i + 1) = k - 1 - i by omega], _, rfl⟩
  · rintro σ H' ⟨rfl, hL, v2, rfl⟩
    rw [Nat.sub_self] at hL
    have := q H' (Ex.refl _)
    unfold lastO at this
    rw [hL, if_pos (by show (-1 : Int) < 0; decide)] at this
    exact this
def nextO (x : Int) : Option Int → Option Int
  | none => none
  | some l => fstO (fun w : Nat => decide (0 ≤ leftTo x (vP w) w ∧ l ≤ leftTo x (vP w) w)) 0 (List.range 25)
def spLeastW (K : PySem.W.Frag) : Sp := fun vs H Q _ => ∃ (x : Int) (o : Option Int) (v : V) (m : Nat) (ok : Addr → Prop), vs = [.int x, optV o, v] ∧ Rd K ok H m v (pTab (toldP 25)) ∧ ∀ H', Ex H H' → Q (optV (nextO x o)) H'
theorem ok_least (T : TK K mg) : FnOk P w K mg base CX0 2 T.least.a T.least.fd ["number", "need", "told"] (spLeastW K) := by
  refine T.least.F.ok sc_least (fun vs H Q E h => ?_) (fun cdv A outer s H vs Q E hr h => ?_)
  · obtain ⟨x, o, v, m, ok, rfl, _⟩ := h; rfl
  obtain ⟨x, o, v, m, ok, rfl, hv, q⟩ := h
  refine ⟨_, (pss_cons (ps_if (pt_cmpR op_isN (pv 1) pe_non (nomark _)) (pss_one (ps_ret pe_non)) pss_nil)
    (pss_cons (ps_for PassesOwn.never rfl (pi_enumS (by rfl) T.z_enumerate (pa_cons (pv 2) pa_nil)) (pg_tup (by rfl) (pgs_cons (pg_name (i := 3) sc_least.nd rfl (Or.inl rfl)) (pgs_cons (pg_name (i := 4) sc_least.nd rfl (Or.inl rfl)) pgs_nil))) (pss_cons (ps_set (i := 5) sc_least.nd rfl (Or.inl rfl) (pe_call (ok_most_rest T) (hr.mono (by decide)) rfl T.most_rest.m T.most_rest.F.kp T.most_rest.b .nil pass0 (pa_cons (pv 0) (pa_cons (pv 4) pa_nil))))
    (pss_one (ps_if (PW.pt (pw_and (pt_cmpR op_notN (pv 5) pe_non (nomark _)) (pw_and1 (pt_cmpR op_ge (pv 5) (pv 1) (nomark _))))) (pss_one (ps_ret (pv 3))) pss_nil))))
    (pss_one (ps_ret pe_non)))), ?_⟩
  obtain ⟨p, vs, rfl, hvs, hvl, vall⟩ := rd_pt hv
  rw [toldP_len] at hvl
  cases o with
  | none => exact ⟨_, rfl, rfl, _, rfl, iteT (q H (Ex.refl _))⟩
  | some l =>
  refine ⟨_, rfl, rfl, _, rfl, iteF ?_⟩
  refine for_enum (p := 3) (q := 4) (xs := vs) (fun R r => ⟨_, rfl, r⟩) (.inl (SqL.of hvs)) (fun i σ H' => Ex H H' ∧ nextO x (some l) = fstO (fun w : Nat => decide (0 ≤ leftTo x (vP w) w ∧ l ≤ leftTo x (vP w) w)) i ((List.range 25).drop i) ∧ ∃ v3 v4 v5, σ = [some (.int x), some (.int l), some (.ref p), v3, v4, v5]) ⟨Ex.refl _, rfl, _, _, _, rfl⟩ (fun i σ H' _ p => p.1) ?_ ?_
  · rintro i y σ H' t hy ⟨e, hf, v3, v4, v5, rfl⟩ ht
    have hi := (List.getElem?_eq_some_iff.mp hy).1
    obtain ⟨y', hy', ry⟩ := vall i (rowP i) (toldP_at 25 i (by omega))
    rw [hy] at hy'
    cases hy'
    have et := Ex.new (o := .tup [.int (i : Int), y]) ht
    refine ⟨_, rfl, _, rfl, x, y, i, _, _, rfl, (ry.ex e).ex et, by omega, fun H2 e2 => ?_⟩
    have hz : (List.range 25)[i]? = some i := List.getElem?_range (by omega)
    have e3 := (e.trans et).trans e2
    unfold lastO
    by_cases c : leftTo x (vP i) i < 0
    · rw [if_pos c]
      exact ⟨_, rfl, rfl, _, rfl, iteF (iteF ⟨e3, hf.trans (fstO_drop hz (decide_eq_false (by omega))), _, _, _, rfl⟩)⟩
    · rw [if_neg c]
      refine ⟨_, rfl, rfl, _, rfl, iteT ⟨_, rfl, _, rfl, _, _, rfl, rfl, _, rfl, ite2 (fun c2 => ?_) (fun c2 => ?_)⟩⟩
      · have c2 := of_decide_eq_true c2
        have := q H2 e3
        rw [hf, fstO_hit hz (decide_eq_true ⟨by omega, c2⟩)] at this
        exact ⟨_, rfl, this⟩
      · have c2 := of_decide_eq_false (Bool.eq_false_iff.mpr c2)
        exact ⟨e3, hf.trans (fstO_drop hz (decide_eq_false fun z => c2 z.2)), _, _, _, rfl⟩
  · rintro σ H' ⟨e, hf, v3, v4, v5, rfl⟩
    have := q H' e
    rw [hf, hvl] at this
    exact this
end
end L2.U


set_option Elab.async false
set_option linter.all false
set_option maxRecDepth 100000
set_option maxHeartbeats 4000000
namespace L2.U
open PySem PySem.Spec PyProof.Rows Evl
section
variable {P : Program} {w : World} {K : PySem.W.Frag} {mg : Str → Option Value} {base : Heap}
def leastO : List Int → Option Int
  | [] => some 0
  | x :: ns => nextO x (leastO ns)
def leastL : List Int → List (Option Int)
  | [] => [some 0]
  | x :: ns => leastO (x :: ns) :: leastL ns
theorem leastL_head : ∀ ns, ∃ r, leastL ns = leastO ns :: r
  | [] => ⟨[], rfl⟩
  | x :: ns => ⟨leastL ns, rfl⟩
theorem leastL_len : ∀ ns, (leastL ns).length = ns.length + 1
  | [] => rfl
  | x :: ns => congrArg (· + 1) (leastL_len ns)
def spCkRow (K : PySem.W.Frag) : Sp := fun vs H Q _ => ∃ (x : V) (dx : PyData) (n : Nat) (ok : Addr → Prop), vs = [x] ∧ Rd K ok H n x dx ∧ rowD dx = true ∧ ∀ H', Ex H H' → Q .non H'
theorem okc_check_row (T : TK K mg) : FnOk P w K mg base CX0 5 T.check_row.a T.check_row.fd ["row"] (spCkRow K) := fn_calm (ok_check_row T) fun vs H Q E h => by
  obtain ⟨x, dx, n, ok, rfl, hx, c, q⟩ := h
  exact ⟨x, dx, n, ok, rfl, hx, fun _ => q, fun z => by rw [c] at z; cases z⟩
def spCkWires : Sp := fun vs H Q _ => ∃ i : Int, vs = [.int i] ∧ 0 ≤ i ∧ i ≤ 24 ∧ Q .non H
theorem ok_check_wires (T : TK K mg) : FnOk P w K mg base (L2.CX P w) 3 T.check_wires.a T.check_wires.fd ["wires"] spCkWires := by
  refine T.check_wires.F.okX sc_check_wires (fun vs H Q E h => ?_) (fun cdv A outer s H vs Q E hr h => ?_)
  · obtain ⟨i, rfl, _⟩ := h; rfl
  obtain ⟨i, rfl, i0, i1, q⟩ := h
  refine ⟨_, (pss_one (ps_if (pt_not (pt_val (pe_call (ok_is_between T.toTA1) (hr.mono (by decide)) rfl T.is_between.m T.is_between.F.kp T.is_between.b .nil pass0 (pa_cons (pv 0) (pa_cons pe_int (pa_cons (pe_glob (v := .int 24) rfl T.c_MOST_WIRES ⟨_, rfl⟩) pa_nil)))))) pss_never pss_nil)), ?_⟩
  refine ⟨_, rfl, _, _, _, rfl, .int, fun b h1 _ => ⟨b, rfl, ?_⟩⟩
  rw [h1 i rfl, decide_eq_true (⟨i0, i1⟩ : 0 ≤ i ∧ i ≤ 24)]
  exact iteF q
def spCkBoth (K : PySem.W.Frag) : Sp := fun vs H Q _ => ∃ (x : V) (dx : PyData) (n : Nat) (ok : Addr → Prop) (i : Int), vs = [x, .int i] ∧ Rd K ok H n x dx ∧ rowD dx = true ∧ 0 ≤ i ∧ i ≤ 24 ∧ ∀ H', Ex H H' → Q .non H'
theorem okr_check_both (T : TK K mg) : FnOk P w K mg base (L2.CX P w) 6 T.check_row_and_wires.a T.check_row_and_wires.fd ["row", "wires"] (spCkBoth K) := by
  refine T.check_row_and_wires.F.okX sc_check_row_and_wires (fun vs H Q E h => ?_) (fun cdv A outer s H vs Q E hr h => ?_)
  · obtain ⟨x, dx, n, ok, i, rfl, _⟩ := h; rfl
  obtain ⟨x, dx, n, ok, i, rfl, hx, c, i0, i1, q⟩ := h
  refine ⟨_, (pss_cons (ps_expr (by exact (pe_callS (ok_check_row T) (hr.mono (by decide)) rfl T.check_row.m T.check_row.F.kp T.check_row.b (fun σ => passAt (takes_of rfl rfl rfl rfl) σ) (pa_cons (pv 0) pa_nil))))
    (pss_one (ps_expr (by exact (pe_callS (ok_check_wires T) (hr.mono (by decide)) rfl T.check_wires.m T.check_wires.F.kp T.check_wires.b (fun σ => passAt (takes_of rfl rfl rfl rfl) σ) (pa_cons (pv 1) pa_nil)))))), ?_⟩
  refine ⟨_, rfl, x, dx, n, ok, rfl, hx, fun _ H1 e1 => ?_, fun no => by rw [c] at no; cases no⟩
  exact ⟨_, rfl, i, rfl, i0, i1, q _ e1⟩
theorem okc_check_row_and_wires (T : TK K mg) : FnOk P w K mg base CX0 6 T.check_row_and_wires.a T.check_row_and_wires.fd ["row", "wires"] (spCkBoth K) := fn_calm (okr_check_both T) fun _ _ _ _ h => h
def canG : List Int → Nat → Bool
  | [], _ => true
  | x :: ns, k => decide (0 ≤ leftTo x (vP k) k) && canG ns (leftTo x (vP k) k).toNat
theorem leftTo_lt (x : Int) (f : Nat → Int) (m : Nat) : leftTo x f m < m := by
  rcases leftTo_spec x f m with ⟨h, _⟩ | ⟨L, h1, h2, _⟩ <;> omega
def spRaise (K : PySem.W.Frag) : Sp := fun vs H Q _ => ∃ (x : V) (dx : PyData) (n : Nat) (ok : Addr → Prop) (k : Nat), vs = [x, .int (k : Int)] ∧ Rd K ok H n x dx ∧ rowD dx = true ∧ k ≤ 24 ∧
  (canG (numsD dx) k = true → ∀ p H', Ex H H' → Q (.ref p) H') ∧ (canG (numsD dx) k = false → ∀ H', Ex H H' → Q .non H')
theorem ok_raise_plan (T : TK K mg) : FnOk P w K mg base CX0 7 T.raise_plan.a T.raise_plan.fd ["row", "wires"] (spRaise K) := by
  refine T.raise_plan.F.ok sc_raise_plan (fun vs H Q E h => ?_) (fun cdv A outer s H vs Q E hr h => ?_)
  · obtain ⟨x, dx, n, ok, k, rfl, _⟩ := h; rfl
  obtain ⟨x, dx, n, ok, k, rfl, hx, c, hk, q1, q2⟩ := h
  refine ⟨_, (pss_cons (ps_expr (pe_call (okc_check_row_and_wires T) (hr.mono (by decide)) rfl T.check_row_and_wires.m T.check_row_and_wires.F.kp T.check_row_and_wires.b .nil pass0 (pa_cons (pv 0) (pa_cons (pv 1) pa_nil))))
    (pss_cons (ps_set (i := 2) sc_raise_plan.nd rfl (Or.inl rfl) (pe_call (ok_most_told T) (hr.mono (by decide)) rfl T.most_told.m T.most_told.F.kp T.most_told.b .nil pass0 (pa_cons (pv 1) pa_nil)))
    (pss_cons (ps_set (i := 3) sc_raise_plan.nd rfl (Or.inl rfl) (pe_lst pa_nil))
    (pss_cons (ps_set (i := 4) sc_raise_plan.nd rfl (Or.inl rfl) (pv 1))
    (pss_cons (ps_for PassesOwn.never rfl (kpis K (pv 0)) (pg_name (i := 5) sc_raise_plan.nd rfl (Or.inl rfl)) (pss_cons (ps_set (i := 6) sc_raise_plan.nd rfl (Or.inl rfl) (pe_call (ok_most_rest T) (hr.mono (by decide)) rfl T.most_rest.m T.most_rest.F.kp T.most_rest.b .nil pass0 (pa_cons (pv 5) (pa_cons (pe_ix (kixl K) (pv 2) (pv 4) (fun _ _ => rfl)) pa_nil))))
    (pss_cons (ps_if (pt_cmpR op_isN (pv 6) pe_non (nomark _)) (pss_one (ps_ret pe_non)) pss_nil)
    (pss_cons (ps_expr (pe_bm PySem.F.plainAttrs_list PySem.F.slot_list_append PySem.F.type_list_append mt_append (pv 3) (pa_cons (pe_ix (kixt K) (pe_ix (kixl K) (pe_ix (kixl K) (pv 2) (pv 4) (fun _ _ => rfl)) (pv 6) (fun _ _ => rfl)) pe_int (fun _ _ => rfl)) pa_nil)))
    (pss_one (ps_set (i := 4) sc_raise_plan.nd rfl (Or.inl rfl) (pv 6)))))))
    (pss_one (ps_ret (pe_callTy (ktuple K) (by rfl) T.z_tuple (by decide +kernel) (pa_cons (pv 3) pa_nil))))))))), ?_⟩
  refine ⟨_, rfl, _, rfl, x, dx, n, ok, (k : Int), rfl, hx, c, by omega, by omega, fun H1 e1 => ?_⟩
  refine ⟨_, rfl, k, rfl, hk, fun p H2 e2 rp => ⟨Nat.zero_le _, fun R hR => ⟨_, rfl, ?_⟩⟩⟩
  have e12 := e1.trans e2
  have e3 := Ex.new (o := .lst []) hR
  obtain ⟨a, rfl, ha, hl16, _⟩ := row_get (hx.ex e12) c
  obtain ⟨p', vs, hpe, hvs, hvl, vall⟩ := rd_pt rp
  cases hpe
  have R2 : H R = none := fresh_back e12 hR
  refine for_seqV (i := 0) (H0 := H2) rfl ha e3 (fun i σ H' => Ex H2 H' ∧ ∃ (rs : List V) (l : Nat) (v5 v6 : Option V), H' R = some (.lst rs) ∧ rs.length = i ∧ l ≤ k ∧ canG (numsD dx) k = canG ((numsD dx).drop i) l ∧ σ = [some (.ref a), some (.int (k : Int)), some (.ref p), some (.ref R), some (.int (l : Int)), v5, v6]) ⟨e3, [], k, _, _, upd_same, rfl, Nat.le_refl _, by rw [List.drop_zero], rfl⟩ (fun i σ H' p => p.1) ?_ ?_
  · rintro i y σ H' hy ⟨e, rs, l, v5, v6, hRR, hrl, hlk, hc, rfl⟩
    obtain ⟨z, hz, rfl⟩ := ints_get hy
    have hi := (List.getElem?_eq_some_iff.mp hz).1
    have dr : (numsD dx).drop i = z :: (numsD dx).drop (i + 1) := by rw [List.drop_eq_getElem_cons hi]; congr 1; exact (List.getElem?_eq_some_iff.mp hz).2
    rw [dr] at hc
    obtain ⟨v, hv, rv⟩ := vall l (rowP l) (toldP_at (k + 1) l (by omega))
    refine ⟨_, rfl, _, rfl, _, rfl, p, vs, _, v, rfl, rfl, SqL.of (e _ _ hvs), atI_nat hv, z, v, l, _, _, rfl, rv.ex e, by omega, fun H3 e4 => ?_⟩
    have e23 := e.trans e4
    have lt := leftTo_lt z (vP l) l
    unfold lastO
    by_cases cc : leftTo z (vP l) l < 0
    · rw [if_pos cc]
      refine ⟨_, rfl, rfl, _, rfl, iteT ?_⟩
      refine q2 ?_ H3 (e12.trans e23)
      rw [hc]
      show (decide _ && _) = false
      rw [decide_eq_false (by omega)]
      rfl
    · rw [if_neg cc]
      refine ⟨_, rfl, rfl, _, rfl, iteF ?_⟩
      obtain ⟨b, us, rfl, hb, _, uall⟩ := rd_row (rv.ex e23)
      obtain ⟨t, s, hu, h1, h2⟩ := uall (leftTo z (vP l) l).toNat _ (rowP_at (by omega))
      have hR3 := e4 _ _ hRR
      refine ⟨_, rfl, .inl ⟨rfl, _, SqL.of hR3⟩, _, rfl, _, rfl, p, vs, _, .ref b, rfl, rfl, SqL.of (e23 _ _ hvs), atI_nat hv, _, rfl, b, us, _, .ref t, rfl, rfl, SqL.of hb, at_of (show leftTo z (vP l) l = ((leftTo z (vP l) l).toNat : Int) by omega) hu, t, _, 1, .ref s, rfl, rfl, h1, rfl, R, rs, _, rfl, rfl, hR3, small1000 (by omega), _, rfl, ?_⟩
      refine ⟨e23.mut hR, rs ++ [.ref s], (leftTo z (vP l) l).toNat, some (.int z), some (.int (leftTo z (vP l) l)), upd_same, by rw [List.length_append, hrl]; rfl, by omega, ?_, ?_⟩
      · rw [hc]
        show (decide _ && _) = _
        rw [decide_eq_true (by omega)]
        rfl
      · rw [Int.toNat_of_nonneg (by omega)]
        rfl
  · rintro σ H' ⟨e, rs, l, v5, v6, hRR, hrl, hlk, hc, rfl⟩
    rw [List.length_map, List.drop_length] at hc
    exact ⟨_, rfl, R, rs, rfl, .inl ⟨SqL.of hRR, fun t ht => q1 hc t _ ((e12.trans e).trans (Ex.new ht))⟩⟩
def spCanR (K : PySem.W.Frag) : Sp := fun vs H Q _ => ∃ (x : V) (dx : PyData) (n : Nat) (ok : Addr → Prop) (k : Nat), vs = [x, .int (k : Int)] ∧ Rd K ok H n x dx ∧ rowD dx = true ∧ k ≤ 24 ∧ ∀ H', Ex H H' → Q (.bl (canG (numsD dx) k)) H'
theorem ok_can_raise (T : TK K mg) : FnOk P w K mg base CX0 8 T.can_raise.a T.can_raise.fd ["row", "wires"] (spCanR K) := by
  refine T.can_raise.F.ok sc_can_raise (fun vs H Q E h => ?_) (fun cdv A outer s H vs Q E hr h => ?_)
  · obtain ⟨x, dx, n, ok, k, rfl, _⟩ := h; rfl
  obtain ⟨x, dx, n, ok, k, rfl, hx, c, hk, q⟩ := h
  refine ⟨_, (pss_one (ps_ret (pe_cmpR op_notN (pe_call (ok_raise_plan T) (hr.mono (by decide)) rfl T.raise_plan.m T.raise_plan.F.kp T.raise_plan.b .nil pass0 (pa_cons (pv 0) (pa_cons (pv 1) pa_nil))) pe_non (nomark _)))), ?_⟩
  refine ⟨_, rfl, _, rfl, x, dx, n, ok, k, rfl, hx, c, hk, fun h p H' e => ⟨rfl, ?_⟩, fun h H' e => ⟨rfl, ?_⟩⟩
  · have := q H' e
    rw [h] at this
    exact this
  · have := q H' e
    rw [h] at this
    exact this
def spLeasts (K : PySem.W.Frag) : Sp := fun vs H Q _ => ∃ (x : V) (dx : PyData) (n : Nat) (ok : Addr → Prop), vs = [x] ∧ Rd K ok H n x dx ∧ rowD dx = true ∧ ∀ p H', H p = none → Ex H H' → H' p = some (.lst ((leastL (numsD dx)).map optV)) → Q (.ref p) H'
theorem ok_leasts (T : TK K mg) : FnOk P w K mg base CX0 7 T.leasts.a T.leasts.fd ["row"] (spLeasts K) := by
  refine T.leasts.F.ok sc_leasts (fun vs H Q E h => ?_) (fun cdv A outer s H vs Q E hr h => ?_)
  · obtain ⟨x, dx, n, ok, rfl, _⟩ := h; rfl
  obtain ⟨x, dx, n, ok, rfl, hx, c, q⟩ := h
  refine ⟨_, (pss_cons (ps_expr (pe_call (okc_check_row T) (hr.mono (by decide)) rfl T.check_row.m T.check_row.F.kp T.check_row.b .nil pass0 (pa_cons (pv 0) pa_nil)))
    (pss_cons (ps_set (i := 1) sc_leasts.nd rfl (Or.inl rfl) (pe_call (ok_most_told T) (hr.mono (by decide)) rfl T.most_told.m T.most_told.F.kp T.most_told.b .nil pass0 (pa_cons (pe_glob (v := .int 24) rfl T.c_MOST_WIRES ⟨_, rfl⟩) pa_nil)))
    (pss_cons (ps_set (i := 2) sc_leasts.nd rfl (Or.inl rfl) (pe_lst (pa_cons pe_int pa_nil)))
    (pss_cons (ps_for PassesOwn.never rfl (kpis K (pe_revS (pv 0))) (pg_name (i := 3) sc_leasts.nd rfl (Or.inl rfl)) (pss_one (ps_expr (pe_bm PySem.F.plainAttrs_list PySem.F.slot_list_append PySem.F.type_list_append mt_append (pv 2) (pa_cons (pe_call (ok_least T) (hr.mono (by decide)) rfl T.least.m T.least.F.kp T.least.b .nil pass0 (pa_cons (pv 3) (pa_cons (pe_ix (kixl K) (pv 2) (pe_un un_neg pe_int) (fun _ _ => rfl)) (pa_cons (pv 1) pa_nil)))) pa_nil)))))
    (pss_one (ps_ret (pe_revL (pv 2)))))))), ?_⟩
  refine ⟨_, rfl, x, dx, n, ok, rfl, hx, c, fun H1 e1 => ⟨24, rfl, by omega, fun p H2 e2 rp => ⟨one_le, fun F hF => ?_⟩⟩⟩
  have e12 := e1.trans e2
  have e3 := Ex.new (o := .lst [.int 0]) hF
  obtain ⟨a, rfl, ha, hl16, _⟩ := row_get (hx.ex e12) c
  have F0 : H F = none := fresh_back e12 hF
  have ha3 : SqL K (upd H2 F (.lst [.int 0])) a ((numsD dx).map V.int) ∨ SqT K (upd H2 F (.lst [.int 0])) a ((numsD dx).map V.int) := ha.imp (ex_l e3) (ex_t e3)
  have hF3 := upd_same (H := H2) (a := F) (o := .lst [.int 0])
  have rp3 := rp.ex e3
  generalize upd H2 F (.lst [.int 0]) = H3 at e3 ha3 hF3 rp3 ⊢
  generalize numsD dx = ns at ha3 q hl16
  refine for_revV (i := 0) (F := F) rfl ha3 hF3 (fun i σ H' => Ex H2 H' ∧ ∃ v3 : Option V, H' F = some (.lst (((leastL (ns.reverse.take i).reverse).map optV).reverse)) ∧ σ = [some (.ref a), some (.ref p), some (.ref F), v3]) (fun H' e => ⟨e3.trans e, _, e _ _ hF3, rfl⟩) ?_ ?_
  · rintro Pr cl i y σ H' hy ⟨e, v3, hFF, rfl⟩ hP
    have hi := (List.getElem?_eq_some_iff.mp hy).1
    rw [List.length_reverse, List.length_map] at hi
    rw [← List.map_reverse] at hy
    obtain ⟨z, hz, rfl⟩ := ints_get hy
    have et : (ns.reverse.take (i + 1)).reverse = z :: (ns.reverse.take i).reverse := by
      rw [List.take_add_one, hz, List.reverse_append]
      rfl
    rw [et]
    have lms : (ns.reverse.take i).reverse.length ≤ 16 := by rw [List.length_reverse, List.length_take, List.length_reverse]; omega
    generalize (ns.reverse.take i).reverse = ms at hFF lms
    obtain ⟨r, hr⟩ := leastL_head ms
    have hl : ((leastL ms).map optV).reverse = (r.map optV).reverse ++ [optV (leastO ms)] := by rw [hr, List.map_cons, List.reverse_cons]
    refine ⟨_, rfl, .inl ⟨rfl, _, SqL.of hFF⟩, _, rfl, _, rfl, 1, rfl, F, _, _, optV (leastO ms), rfl, rfl, SqL.of hFF, by rw [hl]; exact at_neg1, _, rfl, z, leastO ms, _, _, _, rfl, (rp.ex e), fun H4 e4 => ?_⟩
    have hF4 := e4 _ _ hFF
    refine ⟨F, _, _, rfl, rfl, hF4, small1000 (by rw [List.length_reverse, List.length_map, leastL_len]; omega), ⟨(e.trans e4).mut hF, _, by rw [upd_same]; show _ = some (HO.lst ((optV (nextO z (leastO ms)) :: (leastL ms).map optV).reverse)); rw [List.reverse_cons], rfl⟩, cl H' _ ((But.of e4).trans But.upd) hP⟩
  · rintro σ H' ⟨e, v3, hFF, rfl⟩
    rw [List.length_map, ← List.length_reverse, List.take_length, List.reverse_reverse] at hFF
    exact ⟨_, rfl, F, _, rfl, SqL.of hFF, fun g hg => q g _ (fresh_back (e12.trans e) hg) ((e12.trans e).trans (Ex.new hg)) (by rw [upd_same, List.reverse_reverse])⟩
end
end L2.U


set_option Elab.async false
set_option linter.all false
set_option maxRecDepth 100000
set_option maxHeartbeats 4000000
namespace L2.U
open PySem PySem.Spec PyProof.Rows Evl
section
variable {P : Program} {w : World} {K : PySem.W.Frag} {mg : Str → Option Value} {base : Heap}
theorem same_val : ∀ k : Fin 25, ∀ r : Fin 25, r.val < k.val → vP k.val r.val = vR k.val r.val := by decide +kernel
theorem val_mono : ∀ k : Fin 24, ∀ r : Fin 24, r.val < k.val → vR k.val r.val ≤ vR (k.val + 1) r.val := by decide +kernel
theorem val_in : ∀ k : Fin 25, ∀ r : Fin 25, r.val < k.val → 1 ≤ vR k.val r.val ∧ vR k.val r.val ≤ 10000000000000000000000000 := by decide +kernel
theorem vR_mono {r : Nat} : ∀ (d k : Nat), r < k → k + d ≤ 24 → vR k r ≤ vR (k + d) r
  | 0, k, _, _ => Int.le_refl _
  | d + 1, k, h, h2 => Int.le_trans (vR_mono d k h (by omega)) (val_mono ⟨k + d, by omega⟩ ⟨r, by omega⟩ (by show r < k + d; omega))
def canT : List Int → Nat → Bool
  | [], _ => true
  | x :: ns, k => (List.range k).any fun left => decide (x ≤ vR k left) && canT ns left
theorem canT_cons {x : Int} {ns : List Int} {k : Nat} : canT (x :: ns) k = true ↔ ∃ l, l < k ∧ x ≤ vR k l ∧ canT ns l = true := by
  show (List.range k).any _ = true ↔ _
  rw [List.any_eq_true]
  constructor
  · rintro ⟨l, hl, h⟩
    rw [Bool.and_eq_true] at h
    exact ⟨l, List.mem_range.mp hl, of_decide_eq_true h.1, h.2⟩
  · rintro ⟨l, hl, h1, h2⟩
    exact ⟨l, List.mem_range.mpr hl, by rw [Bool.and_eq_true]; exact ⟨decide_eq_true h1, h2⟩⟩
theorem canT_mono : ∀ (ns : List Int) (k k' : Nat), k ≤ k' → k' ≤ 24 → canT ns k = true → canT ns k' = true
  | [], _, _, _, _, _ => rfl
  | x :: ns, k, k', h1, h2, h => by
    obtain ⟨l, hl, h3, h4⟩ := canT_cons.mp h
    refine canT_cons.mpr ⟨l, by omega, Int.le_trans h3 ?_, h4⟩
    have := vR_mono (r := l) (k' - k) k hl (by omega)
    rwa [show k + (k' - k) = k' by omega] at this
theorem leftTo_congr {x : Int} {f g : Nat → Int} : ∀ m, (∀ l, l < m → f l = g l) → leftTo x f m = leftTo x g m
  | 0, _ => rfl
  | m + 1, h => by
    unfold leftTo
    rw [h m (by omega), leftTo_congr m fun l hl => h l (by omega)]
theorem leftTo_PR {x : Int} {k : Nat} (hk : k ≤ 24) : leftTo x (vP k) k = leftTo x (vR k) k := leftTo_congr k fun l hl => same_val ⟨k, by omega⟩ ⟨l, by omega⟩ hl
theorem canG_canT : ∀ (ns : List Int) (k : Nat), k ≤ 24 → canG ns k = canT ns k
  | [], _, _ => rfl
  | x :: ns, k, hk => by
    show (decide (0 ≤ leftTo x (vP k) k) && canG ns (leftTo x (vP k) k).toNat) = _
    rw [leftTo_PR hk]
    rcases leftTo_spec x (vR k) k with ⟨h1, h2⟩ | ⟨L, h1, h2, h3, h4⟩
    · rw [h1, decide_eq_false (by decide)]
      refine (Bool.eq_false_iff.mpr fun c => ?_).symm
      obtain ⟨l, hl, h3, _⟩ := canT_cons.mp c
      exact h2 l hl h3
    · rw [h2, decide_eq_true (by omega), Int.toNat_natCast, canG_canT ns L (by omega), Bool.true_and]
      cases hc : canT ns L with
      | true => exact (canT_cons.mpr ⟨L, h1, h3, hc⟩).symm
      | false =>
        refine (Bool.eq_false_iff.mpr fun c => ?_).symm
        obtain ⟨l, hl, g1, g2⟩ := canT_cons.mp c
        have := canT_mono ns l L (h4 l hl g1) (by omega) g2
        rw [hc] at this
        cases this
theorem fstO_some {α : Type} {p : α → Bool} : ∀ {l : List α} {k : Nat} {j : Int}, fstO p k l = some j → ∃ i x, j = ((k + i : Nat) : Int) ∧ l[i]? = some x ∧ p x = true ∧ ∀ i' x', i' < i → l[i']? = some x' → p x' = false
  | [], k, j, h => by cases h
  | y :: r, k, j, h => by
    unfold fstO at h
    by_cases c : p y = true
    · rw [if_pos c] at h
      exact ⟨0, y, (Option.some.inj h).symm, rfl, c, fun i' x' hi _ => absurd hi (Nat.not_lt_zero _)⟩
    · rw [if_neg c] at h
      obtain ⟨i, x, e, hx, hp, hq⟩ := fstO_some h
      refine ⟨i + 1, x, by rw [e]; congr 1; omega, hx, hp, fun i' x' hi hx' => ?_⟩
      cases i' with
      | zero => cases Option.some.inj hx'; exact Bool.eq_false_iff.mpr c
      | succ i' => exact hq i' x' (by omega) hx'
theorem fstO_none {α : Type} {p : α → Bool} : ∀ {l : List α} {k : Nat}, fstO p k l = none → ∀ (i : Nat) (x : α), l[i]? = some x → p x = false
  | [], k, _, i, x, hx => by cases hx
  | y :: r, k, h, i, x, hx => by
    unfold fstO at h
    by_cases c : p y = true
    · rw [if_pos c] at h; cases h
    · rw [if_neg c] at h
      cases i with
      | zero => cases Option.some.inj hx; exact Bool.eq_false_iff.mpr c
      | succ i => exact fstO_none h i x hx
theorem fst25_some {p : Nat → Bool} {j : Int} (h : fstO p 0 (List.range 25) = some j) : ∃ i : Nat, j = (i : Int) ∧ i ≤ 24 ∧ p i = true ∧ ∀ i', i' < i → p i' = false := by
  obtain ⟨i, x, e, hx, hp, hq⟩ := fstO_some h
  have hi := (List.getElem?_eq_some_iff.mp hx).1
  rw [List.length_range] at hi
  rw [List.getElem?_range hi] at hx
  cases hx
  exact ⟨i, by rw [e, Nat.zero_add], by omega, hp, fun i' hi' => hq i' i' hi' (List.getElem?_range (by omega))⟩
theorem fst25_none {p : Nat → Bool} (h : fstO p 0 (List.range 25) = none) : ∀ i, i ≤ 24 → p i = false := fun i hi => fstO_none h i i (List.getElem?_range (by omega))
/-- the least wires are the first for which the row can be raised -/
def LeastIs (ns : List Int) : Option Int → Prop
  | none => ∀ k, k ≤ 24 → canT ns k = false
  | some j => ∃ l : Nat, j = (l : Int) ∧ l ≤ 24 ∧ ∀ k, k ≤ 24 → (canT ns k = true ↔ l ≤ k)
theorem least_is : ∀ ns, LeastIs ns (leastO ns)
  | [] => ⟨0, rfl, by omega, fun k _ => ⟨fun _ => Nat.zero_le _, fun _ => rfl⟩⟩
  | x :: ns => by
    have ih := least_is ns
    show LeastIs (x :: ns) (nextO x (leastO ns))
    cases ho : leastO ns with
    | none =>
      rw [ho] at ih
      intro k hk
      refine Bool.eq_false_iff.mpr fun c => ?_
      obtain ⟨l, hl, _, h⟩ := canT_cons.mp c
      rw [ih l (by omega)] at h
      cases h
    | some j =>
      rw [ho] at ih
      obtain ⟨l, rfl, hl, hc⟩ := ih
      have key : ∀ w, w ≤ 24 → (decide (0 ≤ leftTo x (vP w) w ∧ (l : Int) ≤ leftTo x (vP w) w) = true ↔ canT (x :: ns) w = true) := fun w hw => by
        rw [leftTo_PR hw, decide_eq_true_iff, canT_cons]
        rcases leftTo_spec x (vR w) w with ⟨h1, h2⟩ | ⟨L, h1, h2, h3, h4⟩
        · rw [h1]
          exact ⟨fun h => by omega, fun ⟨m, hm, h3, _⟩ => absurd h3 (h2 m hm)⟩
        · rw [h2]
          exact ⟨fun h => ⟨L, h1, h3, (hc L (by omega)).mpr (by omega)⟩, fun ⟨m, hm, g1, g2⟩ => by
            have := h4 m hm g1
            have := (hc m (by omega)).mp g2
            omega⟩
      rw [show nextO x (some (l : Int)) = fstO (fun w : Nat => decide (0 ≤ leftTo x (vP w) w ∧ (l : Int) ≤ leftTo x (vP w) w)) 0 (List.range 25) from rfl]
      cases hf : fstO (fun w : Nat => decide (0 ≤ leftTo x (vP w) w ∧ (l : Int) ≤ leftTo x (vP w) w)) 0 (List.range 25) with
      | none =>
        intro k hk
        have := fst25_none hf k hk
        refine Bool.eq_false_iff.mpr fun c => ?_
        rw [(key k hk).mpr c] at this
        cases this
      | some j =>
        obtain ⟨i, rfl, hi, h1, h2⟩ := fst25_some hf
        refine ⟨i, rfl, hi, fun k hk => ⟨fun c => ?_, fun h => canT_mono (x :: ns) i k h hk ((key i hi).mp h1)⟩⟩
        apply Classical.byContradiction
        intro no
        have := h2 k (by omega)
        rw [(key k hk).mpr c] at this
        cases this
theorem least_unique {ns : List Int} {o : Option Int} (h : LeastIs ns o) : o = leastO ns := by
  have g := least_is ns
  cases o with
  | none =>
    cases hl : leastO ns with
    | none => rfl
    | some j =>
      rw [hl] at g
      obtain ⟨l, rfl, hl24, hc⟩ := g
      have := h l hl24
      rw [(hc l hl24).mpr (Nat.le_refl _)] at this
      cases this
  | some j =>
    obtain ⟨l, rfl, hl24, hc⟩ := h
    cases hl : leastO ns with
    | none =>
      rw [hl] at g
      have := g l hl24
      rw [(hc l hl24).mpr (Nat.le_refl _)] at this
      cases this
    | some j' =>
      rw [hl] at g
      obtain ⟨l', rfl, hl24', hc'⟩ := g
      have h1 := (hc l' hl24').mp ((hc' l' hl24').mpr (Nat.le_refl _))
      have h2 := (hc' l hl24).mp ((hc l hl24).mpr (Nat.le_refl _))
      rw [show l = l' by omega]
end
end L2.U


set_option Elab.async false
set_option linter.all false
set_option maxRecDepth 100000
set_option maxHeartbeats 4000000
namespace L2.U
open PySem PySem.Spec PyProof.Rows Evl
section
variable {P : Program} {w : World} {K : PySem.W.Frag} {mg : Str → Option Value} {base : Heap}
theorem cb_up : ∀ n : Fin 25, ∀ k : Fin 25, k.val < n.val → Cb n.val k.val * ((n.val : Int) - (k.val : Int)) = Cb n.val (k.val + 1) * ((k.val : Int) + 1) := by decide +kernel
theorem cb_zero : ∀ n : Fin 25, Cb n.val 0 = 1 := by decide +kernel
def spChoose : Sp := fun vs H Q _ => ∃ n k : Nat, vs = [.int (n : Int), .int (k : Int)] ∧ n ≤ 24 ∧ k ≤ n ∧ Q (.int (Cb n k)) H
theorem ok_law_choose (T : TK K mg) : FnOk P w K mg base CX0 1 T.law_choose.a T.law_choose.fd ["many", "few"] spChoose := by
  refine T.law_choose.F.ok sc_law_choose (fun vs H Q E h => ?_) (fun cdv A outer s H vs Q E hr h => ?_)
  · obtain ⟨n, k, rfl, _⟩ := h; rfl
  obtain ⟨n, k, rfl, hn, hk, q⟩ := h
  refine ⟨_, (pss_cons (ps_set (i := 2) sc_law_choose.nd rfl (Or.inl rfl) pe_int)
    (pss_cons (ps_for PassesOwn.never rfl (pi_range1 rfl T.z_range (pa_cons (pv 1) pa_nil)) (pg_name (i := 3) sc_law_choose.nd rfl (Or.inl rfl)) (pss_one (ps_set (i := 2) sc_law_choose.nd rfl (Or.inl rfl) (pe_op op_fdiv (pe_op op_mul (pv 2) (pe_op op_sub (pv 0) (pv 3))) (pe_op op_add (pv 3) pe_int)))))
    (pss_one (ps_ret (pv 2))))), ?_⟩
  refine ⟨_, rfl, (k : Int), rfl, by omega, by omega, for_range (lo := 0) (n := ((k : Int)).toNat) (fun i σ H' => H' = H ∧ ∃ v, σ = [some (.int (n : Int)), some (.int (k : Int)), some (.int (Cb n i)), v]) ⟨rfl, none, by rw [cb_zero ⟨n, by omega⟩]; rfl⟩ ?_ ?_⟩
  · rintro i σ H' hi ⟨rfl, v, rfl⟩
    rw [Int.zero_add]
    have up := cb_up ⟨n, by omega⟩ ⟨i, by omega⟩ (by show i < n; omega)
    simp only at up
    refine ⟨_, rfl, _, rfl, _, rfl, _, _, rfl, rfl, _, _, rfl, rfl, .inr ⟨by omega, by omega⟩, _, rfl, _, _, rfl, rfl, _, _, rfl, rfl, ⟨by omega, by omega⟩, rfl, some (.int (i : Int)), ?_⟩
    rw [show Cb n (i + 1) = Cb n i * ((n : Int) - (i : Int)) / ((i : Int) + 1) by rw [up, Int.mul_ediv_cancel _ (by omega)]]
    rfl
  · rintro σ H' ⟨rfl, v, rfl⟩
    rw [Int.toNat_natCast]
    exact ⟨_, rfl, q⟩
theorem rT_len : ∀ m, (rT m).length = m
  | 0 => rfl
  | k + 1 => by rw [rT, List.length_append, rT_len k]; rfl
def rowR (k : Nat) : List Int := (List.range (k + 1)).map (bestR (rT k) k)
theorem rT_at : ∀ (m k : Nat), k < m → (rT m)[k]? = some (rowR k)
  | m + 1, k, h => by
    rw [rT]
    by_cases c : k < m
    · rw [List.getElem?_append_left (by rw [rT_len]; exact c)]
      exact rT_at m k c
    · obtain rfl : k = m := by omega
      rw [List.getElem?_append_right (by rw [rT_len]; exact Nat.le_refl _), rT_len, Nat.sub_self]
      rfl
def bJ (k left i : Nat) : Int := (List.range i).foldl (fun b i => stepR (rT k) k left b (i + 1)) 0
theorem bJ_step (k left i : Nat) : bJ k left (i + 1) = stepR (rT k) k left (bJ k left i) (i + 1) := by
  unfold bJ
  rw [List.range_succ, List.foldl_append]
  rfl
theorem rT_get {k j l : Nat} {d : Int} (hj : j < k) (hl : l ≤ j) : ((rT k).getD j []).getD l d = vR j l := by
  rw [List.getD_eq_getElem?_getD (l := rT k), rT_at k j hj]
  show (rowR j).getD l d = _
  unfold rowR
  rw [List.getD_eq_getElem?_getD, List.getElem?_map, List.getElem?_range (by omega)]
  rfl
def spRaised (K : PySem.W.Frag) : Sp := fun vs H Q _ => ∃ m : Nat, vs = [.int (m : Int)] ∧ m ≤ 24 ∧ ∀ p H', Ex H H' → Rd K (fun a => H a = none) H' 2 (.ref p) (list2 (rT (m + 1))) → Q (.ref p) H'
theorem ok_law_raised (T : TK K mg) : FnOk P w K mg base CX0 2 T.law_raised.a T.law_raised.fd ["most"] (spRaised K) := by
  refine T.law_raised.F.ok sc_law_raised (fun vs H Q E h => ?_) (fun cdv A outer s H vs Q E hr h => ?_)
  · obtain ⟨m, rfl, _⟩ := h; rfl
  obtain ⟨m, rfl, hm, q⟩ := h
  refine ⟨_, (pss_cons (ps_set (i := 1) sc_law_raised.nd rfl (Or.inl rfl) (pe_lst pa_nil))
    (pss_cons (ps_for PassesOwn.never rfl (pi_range1 rfl T.z_range (pa_cons (pe_op op_add (pv 0) pe_int) pa_nil)) (pg_name (i := 2) sc_law_raised.nd rfl (Or.inl rfl)) (pss_cons (ps_set (i := 3) sc_law_raised.nd rfl (Or.inl rfl) (pe_lst pa_nil))
    (pss_cons (ps_for PassesOwn.never rfl (pi_range1 rfl T.z_range (pa_cons (pe_op op_add (pv 2) pe_int) pa_nil)) (pg_name (i := 4) sc_law_raised.nd rfl (Or.inl rfl)) (pss_cons (ps_set (i := 5) sc_law_raised.nd rfl (Or.inl rfl) pe_int)
    (pss_cons (ps_for PassesOwn.never rfl (pi_range2 rfl T.z_range (pa_cons pe_int (pa_cons (pe_op op_add (pe_op op_sub (pv 2) (pv 4)) pe_int) pa_nil))) (pg_name (i := 6) sc_law_raised.nd rfl (Or.inl rfl)) (pss_one (ps_if (pt_cmpR op_eq (pe_op op_sub (pv 2) (pv 6)) (pv 4) (nomark _)) (pss_one (ps_set (i := 5) sc_law_raised.nd rfl (Or.inl rfl) (pe_callB (call_max2 rfl) (by rfl) T.z_max (by decide +kernel) (pa_cons (pv 5) (pa_cons (pe_call (ok_law_choose T) (hr.mono (by decide)) rfl T.law_choose.m T.law_choose.F.kp T.law_choose.b .nil pass0 (pa_cons (pv 2) (pa_cons (pv 6) pa_nil))) pa_nil))))) (pss_one (ps_if (pt_cmpR op_gt (pe_op op_sub (pe_op op_sub (pv 2) (pv 6)) pe_int) (pv 4) (nomark _)) (pss_one (ps_set (i := 5) sc_law_raised.nd rfl (Or.inl rfl) (pe_callB (call_max2 rfl) (by rfl) T.z_max (by decide +kernel) (pa_cons (pv 5) (pa_cons (pe_op op_mul (pe_call (ok_law_choose T) (hr.mono (by decide)) rfl T.law_choose.m T.law_choose.F.kp T.law_choose.b .nil pass0 (pa_cons (pv 2) (pa_cons (pv 6) pa_nil))) (pe_ix (kixl K) (pe_ix (kixl K) (pv 1) (pe_op op_sub (pe_op op_sub (pv 2) (pv 6)) pe_int) (fun _ _ => rfl)) (pv 4) (fun _ _ => rfl))) pa_nil))))) pss_nil)))))
    (pss_one (ps_expr (pe_bm PySem.F.plainAttrs_list PySem.F.slot_list_append PySem.F.type_list_append mt_append (pv 3) (pa_cons (pv 5) pa_nil)))))))
    (pss_one (ps_expr (pe_bm PySem.F.plainAttrs_list PySem.F.slot_list_append PySem.F.type_list_append mt_append (pv 1) (pa_cons (pv 3) pa_nil)))))))
    (pss_one (ps_ret (pv 1))))), ?_⟩
  refine ⟨Nat.zero_le _, fun F hF => ?_⟩
  refine ⟨_, rfl, _, _, rfl, rfl, (m : Int) + 1, rfl, by omega, by omega, for_range (lo := 0) (n := ((m : Int) + 1).toNat) (fun k σ G => Ex H G ∧ ∃ (xs : List V) (v2 v3 v4 v5 v6 : Option V), G F = some (.lst xs) ∧ xs.length = k ∧ RdL K (fun a => H a = none ∧ a ≠ F) G 1 xs ((rT k).map listI) ∧ σ = [some (.int (m : Int)), some (.ref F), v2, v3, v4, v5, v6]) ⟨Ex.new hF, [], _, _, _, _, _, upd_same, rfl, RdL.nil, rfl⟩ ?_ ?_⟩
  · rintro k σ G hk ⟨eg, xs, v2, v3, v4, v5, v6, hFG, hxl, rF, rfl⟩
    rw [Int.zero_add]
    refine ⟨Nat.zero_le _, fun L hL => ⟨_, rfl, _, _, rfl, rfl, (k : Int) + 1, rfl, by omega, by omega, for_range (lo := 0) (n := ((k : Int) + 1).toNat) (fun l σ G1 => Ex G G1 ∧ ∃ v4 v5 v6 : Option V, G1 L = some (.lst (((List.range l).map (bestR (rT k) k)).map V.int)) ∧ σ = [some (.int (m : Int)), some (.ref F), some (.int (k : Int)), some (.ref L), v4, v5, v6]) ⟨Ex.new hL, _, _, _, upd_same, rfl⟩ ?_ ?_⟩⟩
    · rintro l σ G1 hl ⟨eg1, v4, v5, v6, hLG, rfl⟩
      rw [Int.zero_add]
      have hl' : l ≤ k := by omega
      refine ⟨_, rfl, _, rfl, _, _, rfl, rfl, _, _, rfl, rfl, 1, (k : Int) - (l : Int) + 1, rfl, ⟨by omega, by omega, by omega, by omega⟩, for_range (lo := 1) (n := ((k : Int) - (l : Int) + 1 - 1).toNat) (fun i σ G2 => G2 = G1 ∧ ∃ v6 : Option V, σ = [some (.int (m : Int)), some (.ref F), some (.int (k : Int)), some (.ref L), some (.int (l : Int)), some (.int (bJ k l i)), v6]) ⟨rfl, _, rfl⟩ ?_ ?_⟩
      · rintro i σ G2 hi ⟨rfl, v6, rfl⟩
        have ii : i + 1 ≤ k - l := by omega
        have st := bJ_step k l i
        unfold stepR at st
        have ec : ((i + 1 : Nat) : Int) = 1 + (i : Int) := by omega
        refine ⟨_, rfl, _, rfl, _, _, rfl, rfl, _, rfl, rfl, _, rfl, ite2 (fun c => ?_) (fun c => ?_)⟩
        · have c : (k : Int) - (1 + (i : Int)) = (l : Int) := V.int.inj (of_decide_eq_true c)
          rw [if_pos (show k = l + (i + 1) by omega)] at st
          refine ⟨_, rfl, _, rfl, _, rfl, k, i + 1, by rw [ec]; rfl, by omega, by omega, _, _, rfl, rfl, some (.int (1 + (i : Int))), ?_⟩
          rw [st]
          rfl
        · have c : ¬ (k : Int) - (1 + (i : Int)) = (l : Int) := fun e => c (decide_eq_true (show V.int ((k : Int) - (1 + (i : Int))) = V.int (l : Int) by rw [e]))
          rw [if_neg (show ¬ k = l + (i + 1) by omega)] at st
          refine ⟨_, rfl, _, rfl, _, _, rfl, rfl, _, _, rfl, rfl, _, rfl, _, _, rfl, rfl, _, rfl, ite2 (fun c2 => ?_) (fun c2 => ?_)⟩
          · have c2 := of_decide_eq_true c2
            rw [if_pos (show l + (i + 1) + 1 < k by omega), rT_get (show k - (i + 1) - 1 < k by omega) (show l ≤ k - (i + 1) - 1 by omega)] at st
            have fG := eg1 _ _ hFG
            have rr := rF.2 (k - (i + 1) - 1)
            obtain ⟨x, hx⟩ : ∃ x, xs[k - (i + 1) - 1]? = some x := ⟨_, List.getElem?_eq_getElem (by omega)⟩
            obtain ⟨o, rfl, _, ho, _⟩ := rd_listI (rr x (listI (rowR (k - (i + 1) - 1))) hx (by rw [List.getElem?_map, rT_at k _ (by omega)]; rfl))
            have cb1 := cb_in ⟨k, by omega⟩ ⟨i + 1, by omega⟩
            simp only at cb1
            refine ⟨_, rfl, _, rfl, _, rfl, k, i + 1, by rw [ec]; rfl, by omega, by omega, _, rfl, _, rfl, _, rfl, _, _, rfl, rfl, _, _, rfl, rfl, F, xs, _, .ref o, rfl, rfl, SqL.of fG, at_of (show (k : Int) - (1 + (i : Int)) - 1 = ((k - (i + 1) - 1 : Nat) : Int) by omega) hx, _, rfl, o, _, _, .int (vR (k - (i + 1) - 1) l), rfl, rfl, SqL.of (eg1 _ _ ho), atI_nat ?_, _, _, rfl, rfl, .inl ⟨by omega, by omega⟩, _, _, rfl, rfl, some (.int (1 + (i : Int))), ?_⟩
            · unfold rowR
              rw [List.getElem?_map, List.getElem?_map, List.getElem?_range (by omega)]
              rfl
            · rw [st]
              rfl
          · have c2 : ¬ (l : Int) < (k : Int) - (1 + (i : Int)) - 1 := of_decide_eq_false (Bool.eq_false_iff.mpr c2)
            rw [if_neg (show ¬ l + (i + 1) + 1 < k by omega)] at st
            refine ⟨rfl, some (.int (1 + (i : Int))), ?_⟩
            rw [st]
            rfl
      · rintro σ G2 ⟨rfl, v6, rfl⟩
        refine ⟨_, rfl, .inl ⟨rfl, _, SqL.of hLG⟩, _, rfl, L, _, _, rfl, rfl, hLG, small1000 (by rw [List.length_map, List.length_map, List.length_range]; omega), eg1.mut hL, _, _, _, ?_, rfl⟩
        rw [upd_same, List.range_succ, List.map_append, List.map_append, show ((k : Int) - (l : Int) + 1 - 1).toNat = k - l by omega]
        rfl
    · rintro σ G1 ⟨eg1, v4, v5, v6, hLG, rfl⟩
      have LF : L ≠ F := by rintro rfl; rw [hFG] at hL; cases hL
      have fG := eg1 _ _ hFG
      refine ⟨_, rfl, .inl ⟨rfl, _, SqL.of fG⟩, _, rfl, F, xs, .ref L, rfl, rfl, fG, small1000 (by omega), (eg.trans eg1).mut hF, xs ++ [.ref L], _, _, _, _, _, upd_same, by rw [List.length_append, hxl]; rfl, ?_, rfl⟩
      rw [rT, List.map_append]
      refine RdL.snoc ((rF.ex eg1).but (b := F) But.upd (fun a ha => ha.2)) ?_
      rw [show ((k : Int) + 1).toNat = k + 1 by omega] at hLG
      exact rd_ilist (ns := (List.range (k + 1)).map (bestR (rT k) k)) (by rw [upd_ne LF]; exact hLG) ⟨fresh_back eg hL, LF⟩ (by rw [List.length_map, List.length_range]; omega)
  · rintro σ G ⟨eg, xs, v2, v3, v4, v5, v6, hFG, hxl, rF, rfl⟩
    rw [show ((m : Int) + 1).toNat = m + 1 by omega] at rF hxl
    exact ⟨_, rfl, q F G eg (.lst hFG hF rF.1 (by omega) fun i x d hx hd => (rF.2 i x d hx hd).of fun a ha => ha.1)⟩
end
end L2.U


set_option Elab.async false
set_option linter.all false
set_option maxRecDepth 100000
set_option maxHeartbeats 4000000
namespace L2.U
open PySem PySem.Spec PyProof.Rows Evl
section
variable {P : Program} {w : World} {K : PySem.W.Frag} {mg : Str → Option Value} {base : Heap}
def tablesW (ns : List Int) : PyData := .list ((sufs ns).map fun ms => rowB 24 (canT ms))
def spWTables (K : PySem.W.Frag) : Sp := fun vs H Q _ => ∃ (a p : Addr) (ns : List Int) (j : Nat) (ok : Addr → Prop), vs = [.ref a, .ref p] ∧ SqL K H a (ns.map V.int) ∧ ns.length ≤ 100 ∧ Rd K ok H j (.ref p) (list2 (rT 25)) ∧
  ∀ q H', Ex H H' → Rd K (fun a => H a = none) H' 2 (.ref q) (tablesW ns) → Q (.ref q) H'
theorem rd_raised {ok : Addr → Prop} {H : Hp} {j : Nat} {x : V} (h : Rd K ok H j x (list2 (rT 25))) : ∃ p vs, x = .ref p ∧ H p = some (.lst vs) ∧ vs.length = 25 ∧ ∀ k, k ≤ 24 → ∃ b, vs[k]? = some (.ref b) ∧ H b = some (.lst ((rowR k).map V.int)) := by
  obtain ⟨p, vs, rfl, hp, hl, _, all⟩ := rd_list2 h
  rw [rT_len] at hl
  refine ⟨p, vs, rfl, hp, hl, fun k hk => ?_⟩
  obtain ⟨b, t, e1, e2, e3⟩ := all k _ (List.getElem?_eq_getElem (by omega))
  rw [rT_at 25 k (by omega)] at e2
  cases e2
  exact ⟨b, by rw [List.getElem?_eq_getElem (by omega), e1], e3⟩
theorem rowR_at {k l : Nat} (h : l ≤ k) : ((rowR k).map V.int)[l]? = some (.int (vR k l)) := by
  unfold rowR
  rw [List.getElem?_map, List.getElem?_map, List.getElem?_range (by omega)]
  rfl
theorem rd_rb {ok : Addr → Prop} {H : Hp} {L : Addr} {m : Nat} {t : Nat → Bool} (hL : H L = some (.lst ((List.range (m + 1)).map fun a => V.bl (t a)))) (o : ok L) (hm : m ≤ 100) : Rd K ok H 1 (.ref L) (rowB m t) := by
  unfold rowB
  refine .lst hL o (by rw [List.length_map, List.length_map]) (by rw [List.length_map, List.length_range]; omega) fun i x d hx hd => ?_
  rw [List.getElem?_map] at hx hd
  obtain ⟨y, hy, rfl⟩ := Option.map_eq_some_iff.mp hx
  rw [hy] at hd
  cases hd
  exact .bl _
theorem ok_law_wire_tables (T : TK K mg) : FnOk P w K mg base CX0 2 T.law_wire_tables.a T.law_wire_tables.fd ["row", "raised"] (spWTables K) := by
  refine T.law_wire_tables.F.ok sc_law_wire_tables (fun vs H Q E h => ?_) (fun cdv A outer s H vs Q E hr h => ?_)
  · obtain ⟨a, p, ns, j, ok, rfl, _⟩ := h; rfl
  obtain ⟨a, p, ns, j, ok, rfl, ha, hl100, hp, q⟩ := h
  refine ⟨_, (pss_cons (ps_set (i := 2) sc_law_wire_tables.nd rfl (Or.inr rfl) (pe_lst (pa_cons (pe_op op_rep (pe_lst (pa_cons pe_bl pa_nil)) (pe_callB (klen K) (by rfl) T.z_len (by decide +kernel) (pa_cons (pv 1) pa_nil))) pa_nil)))
    (pss_cons (ps_for PassesOwn.never rfl (kpil K (pe_revL (pv 0))) (pg_name (i := 3) sc_law_wire_tables.nd rfl (Or.inr rfl)) (pss_cons (ps_set (i := 4) sc_law_wire_tables.nd rfl (Or.inl rfl) (pe_lst pa_nil))
    (pss_cons (ps_for PassesOwn.never rfl (pi_range1 rfl T.z_range (pa_cons (pe_callB (klen K) (by rfl) T.z_len (by decide +kernel) (pa_cons (pv 1) pa_nil)) pa_nil)) (pg_name (i := 5) sc_law_wire_tables.nd rfl (Or.inr rfl)) (pss_cons (ps_setLc (i := 6) (own := [("left", 7)]) (g := gName 7) (by rfl) sc_law_wire_tables.nd rfl rfl (sw_true rfl rfl rfl (by decide +kernel)) (pi_range1 rfl T.z_range (pa_cons (pv 5) pa_nil)) (blkOk_by (own := [("left", 7)]) (N := ["row", "raised", "tables", "number", "here", "k", "ways", "left"]) (sc := defScope s_law_wire_tables) (by decide +kernel)) (fun _ _ _ _ _ => (pg_name (i := 7) sc_law_wire_tables.nd rfl (Or.inl rfl))) (fun _ _ _ _ _ => (pts_one (PW.pt (pw_and (pt_cmpR op_ge (pe_ix (kixl K) (pe_ix (kixl K) (pv 1) (pv 5) (fun _ _ => rfl)) (pv 7) (fun _ _ => rfl)) (pv 3) (nomark _)) (pw_and1 (pt_val (pe_ix (kixl K) (pe_ix (kixl K) (pv 2) pe_int (fun _ _ => rfl)) (pv 7) (fun _ _ => rfl)))))))) (fun _ _ _ _ _ => (pv 7)))
    (pss_one (ps_expr (pe_bm PySem.F.plainAttrs_list PySem.F.slot_list_append PySem.F.type_list_append mt_append (pv 4) (pa_cons (pe_cmpR (kneD K hr.units) (pv 6) (pe_lst pa_nil) (nomark _)) pa_nil))))))
    (pss_one (ps_set (i := 2) sc_law_wire_tables.nd rfl (Or.inr rfl) (pe_op op_cat (pe_lst (pa_cons (pv 4) pa_nil)) (pv 2)))))))
    (pss_one (ps_ret (pv 2))))), ?_⟩
  obtain ⟨p', vs, hpe, hvs, hvl, vall⟩ := rd_raised hp
  cases hpe
  refine ⟨one_le, fun u0 hu0 => ⟨_, rfl, _, 25, rfl, .inl ⟨vs, ex_l (Ex.new hu0) (SqL.of hvs), hvl.symm⟩, u0, 25, [.bl true], rfl, rfl, upd_same, by decide, by decide, by show 1 * 25 ≤ sizeLine; decide, fun u1 hu1 => ⟨one_le, fun u2 hu2 => ?_⟩⟩⟩
  have x0 := Ex.new (o := .lst [.bl true]) hu0
  have x1 := Ex.new (o := .lst (List.replicate (25 : Int).toNat [V.bl true]).flatten) hu1
  have x2 := Ex.new (o := .lst [.ref u1]) hu2
  have rl : (List.replicate (25 : Int).toNat [V.bl true]).flatten = (List.range (24 + 1)).map fun _ => V.bl true := by
    rw [rep_one, List.map_const', List.length_range]
    rfl
  have e0 := (x0.trans x1).trans x2
  have r0 : Rd K (fun a => H a = none) (upd (upd (upd H u0 (.lst [.bl true])) u1 (.lst (List.replicate (25 : Int).toNat [V.bl true]).flatten)) u2 (.lst [.ref u1])) 2 (.ref u2) (tablesW []) := .lst upd_same (fresh_back (x0.trans x1) hu2) rfl (by show 1 ≤ 900; omega) fun i x d hx hd => by
    match i, hx, hd with
    | 0, hx, hd =>
      cases hx; cases hd
      exact rd_rb (x2 _ _ (by rw [upd_same, rl]; rfl)) (fresh_back x0 hu1) (by omega)
  generalize upd (upd (upd H u0 _) u1 _) u2 _ = H0 at e0 r0 ⊢
  refine ⟨_, rfl, a, _, rfl, ex_l e0 ha, fun rv hrv => ?_⟩
  have ev := Ex.new (o := .lst (ns.map V.int).reverse) hrv
  have rvs : upd H0 rv (.lst (ns.map V.int).reverse) rv = some (.lst (ns.map V.int).reverse) := upd_same
  generalize upd H0 rv (.lst (ns.map V.int).reverse) = H1 at ev rvs ⊢
  have e01 := e0.trans ev
  refine ⟨rv, rfl, ⟨_, SqL.of rvs⟩, for_list (xs := (ns.map V.int).reverse) (fun i σ H' => Ex H1 H' ∧ ∃ (tp : Addr) (v3 v4 v5 v6 : Option V), Rd K (fun a => H a = none) H' 2 (.ref tp) (tablesW (ns.reverse.take i).reverse) ∧ σ = [some (.ref a), some (.ref p), some (.ref tp), v3, v4, v5, v6, none])
    ⟨Ex.refl _, u2, _, _, _, _, r0.ex ev, rfl⟩ (fun i σ H' _ p => ex_l p.1 (SqL.of rvs)) ?_ ?_⟩
  · rintro i v σ H' hx ⟨e, tp, v3, v4, v5, v6, rt, rfl⟩
    have hi1 := (List.getElem?_eq_some_iff.mp hx).1
    rw [← List.map_reverse] at hx
    obtain ⟨x, hx1, rfl⟩ := ints_get hx
    have et : (ns.reverse.take (i + 1)).reverse = x :: (ns.reverse.take i).reverse := by
      rw [List.take_add_one, hx1, List.reverse_append]
      rfl
    have lms : ((ns.reverse.take i).reverse).length ≤ 100 := by rw [List.length_reverse, List.length_take, List.length_reverse]; omega
    rw [et]
    generalize (ns.reverse.take i).reverse = ms at rt lms ⊢
    have eh := e01.trans e
    obtain ⟨txs, htp, tpok, txl, _, tall⟩ := rd_lst_at rt
    rw [List.length_map, sufs_len] at txl
    have hd0 : ((sufs ms).map fun ms => rowB 24 (canT ms))[0]? = some (rowB 24 (canT ms)) := by
      rw [List.getElem?_map, sufs_at ms 0 (Nat.zero_le _)]
      rfl
    have hx0 := List.getElem?_eq_getElem (show 0 < txs.length by omega)
    have rp0 := tall 0 _ _ hx0 hd0
    obtain ⟨pb, ps, hpe, hps, pval⟩ := rd_rowB rp0
    rw [hpe] at hx0 rp0
    refine ⟨Nat.zero_le _, fun F hF => ?_⟩
    have eF := Ex.new (o := .lst []) hF
    obtain ⟨Tn, hTn⟩ : ∃ Tn, Tn = canT (x :: ms) := ⟨_, rfl⟩
    refine ⟨_, rfl, _, 25, rfl, .inl ⟨vs, SqL.of (eF _ _ (eh _ _ hvs)), hvl.symm⟩, 25, rfl, by decide, by decide, for_range (lo := 0) (n := 25) (fun k σ G => Ex H' G ∧ ∃ v5 v6 : Option V, G F = some (.lst ((List.range k).map fun a => V.bl (Tn a))) ∧ σ = [some (.ref a), some (.ref p), some (.ref tp), some (.int x), some (.ref F), v5, v6, none]) ⟨eF, _, _, upd_same, rfl⟩ ?_ ?_⟩
    · rintro k σ G hk ⟨eg, v5, v6, hFG, rfl⟩
      rw [Int.zero_add]
      obtain ⟨b, hb, hbs⟩ := vall k (by omega)
      have ehg := eh.trans eg
      have c1 := el_lcR1 (σ := [some (.ref a), some (.ref p), some (.ref tp), some (.int x), some (.ref F), some (.int (k : Int)), v6, none]) (H := G) (ta := tCons (tVar 5) tNil)
        (t := tAnd (tTest (tOp (rI0 fun i j => V.bl (decide (j ≤ i))) (tOp (rIxL K) (tOp (rIxL K) (tVar 1) (tVar 5)) (tVar 7)) (tVar 3))) (tB (tOp (rIxL K) (tOp (rIxL K) (tVar 2) (tC (V.int 0))) (tVar 7)))) (te := tVar 7) (j := 7) (vs := [7]) (n := (k : Int)) (fun l => decide (x ≤ vR k l) && canT ms l) (fun l => .int (l : Int))
        (ea_cons (ev_var rfl) ea_nil) ⟨by omega, by omega⟩ (fun _ => rfl)
        (fun l G2 eg2 hl2 => et_and (et_test (ev_op (ev_op (ev_op (ev_var rfl) (ev_var rfl) (rv_ixL (SqL.of (eg2 _ _ (ehg _ _ hvs))) (atI_nat hb))) (ev_var rfl) (rv_ixL (SqL.of (eg2 _ _ (ehg _ _ hbs))) (atI_nat (rowR_at (by omega))))) (ev_var rfl) rv_I0)) fun _ => et_B (ev_op (ev_op (ev_var rfl) ev_c (rv_ixL (SqL.of (eg2 _ _ (eg _ _ htp))) (at_of (show (0 : Int) = ((0 : Nat) : Int) from rfl) hx0))) (ev_var rfl) (rv_ixL (SqL.of (eg2 _ _ (eg _ _ hps))) (atI_nat (pval l (by omega)))))) (fun l G2 eg2 hl2 _ => ev_var rfl)
      rw [given_ints, Int.toNat_natCast] at c1
      refine gn_ (el_seq (i := 6) c1 fun w G2 hw eg2 hwv => ?_)
      refine ⟨_, rfl, .inl ⟨rfl, _, SqL.of (eg2 _ _ hFG)⟩, _, rfl, Nat.zero_le _, fun z hz => ?_⟩
      have eg3 := Ex.new (o := .lst []) hz
      have rdi := rdl_ints (K := K) (ok := fun _ => True) (H := upd G2 z (.lst [])) (n := 0) (((List.range k).filter fun l => decide (x ≤ vR k l) && canT ms l).map fun l : Nat => (l : Int))
      have fl := List.length_filter_le (fun l => decide (x ≤ vR k l) && canT ms l) (List.range k)
      rw [List.length_range] at fl
      have rdw : Rd K (fun _ => True) (upd G2 z (.lst [])) 1 (.ref w) _ := .lst (eg3 _ _ hwv) trivial rdi.1 (by rw [List.length_map, List.length_map]; omega) rdi.2
      have rde : Rd K (fun _ => True) (upd G2 z (.lst [])) 1 (.ref z) (.list []) := .lst upd_same trivial rfl (Nat.zero_le _) (fun i x d hx _ => by cases hx)
      refine ⟨_, _, rdw.dp, rde.dp, rdw.shaped (by omega), rde.shaped (by omega), F, _, _, rfl, rfl, eg3 _ _ (eg2 _ _ hFG), small1000 (by rw [List.length_map, List.length_range]; omega), ?_⟩
      refine ⟨((eg.trans eg2).trans eg3).mut hF, _, _, ?_, rfl⟩
      rw [upd_same, any_ne, List.range_succ (n := k), List.map_append, hTn]
      rfl
    · rintro σ G ⟨eg, v5, v6, hFG, rfl⟩
      have htpG := eg _ _ htp
      refine ⟨_, rfl, one_le, fun o ho => ?_⟩
      have eo := Ex.new (o := .lst [.ref F]) ho
      refine ⟨_, rfl, o, tp, _, _, rfl, rfl, upd_same, eo _ _ htpG, Nat.le_of_lt (small1000 (by show 1 + _ ≤ 1000; omega)), fun np hnp => ?_⟩
      have en := Ex.new (o := .lst ([.ref F] ++ txs)) hnp
      have rF : Rd K (fun a => H a = none) G 1 (.ref F) (rowB 24 (canT (x :: ms))) := by
        rw [← hTn]
        exact rd_rb hFG (fresh_back eh hF) (by omega)
      have fr0 : ∀ a, upd G o (.lst [.ref F]) a = none → H a = none := fun a ha => fresh_back ((eh.trans eg).trans eo) ha
      refine ⟨((e.trans eg).trans eo).trans en, np, _, _, _, _, .lst upd_same (fr0 np hnp) (by rw [List.length_append, List.length_map, sufs_len, txl]; show 1 + _ = _ + 1 + 1; omega) (by rw [List.length_append]; show 1 + _ ≤ 900; omega) fun i y d hy hd => ?_, rfl⟩
      cases i with
      | zero =>
        cases hy
        cases hd
        exact (rF.ex eo).ex en
      | succ i => exact (((tall i y d hy hd).ex eg).ex eo).ex en
  · rintro σ H' ⟨e, tp, v3, v4, v5, v6, rt, rfl⟩
    rw [List.length_reverse, List.length_map, ← List.length_reverse, List.take_length, List.reverse_reverse] at rt
    exact ⟨_, rfl, q tp H' (e01.trans e) rt⟩
end
end L2.U


set_option Elab.async false
set_option linter.all false
set_option maxRecDepth 100000
set_option maxHeartbeats 4000000
namespace L2.U
open PySem PySem.Spec PyProof.Rows Evl
section
variable {P : Program} {w : World} {K : PySem.W.Frag} {mg : Str → Option Value} {base : Heap}
/-! ### the lists of sizes -/
def grow1 (n : Nat) (t : List Int) : List (List Int) := (List.range ((n : Int) - t.sum - (t.length : Int)).toNat).map fun k : Nat => t ++ [1 + (k : Int)]
def growL (n : Nat) (g : List (List Int)) : List (List Int) := g.flatMap (grow1 n)
def lev (n : Nat) : Nat → List (List Int)
  | 0 => [[]]
  | k + 1 => growL n (lev n k)
def foundL (n i : Nat) : List (List Int) := (List.range i).flatMap fun k => lev n (k + 1)
theorem lev_small : ∀ n : Fin 7, ∀ i : Fin 7, (foundL n.val i.val).length ≤ 40 ∧ (lev n.val i.val).length ≤ 20 ∧ ∀ t ∈ lev n.val i.val, t.length ≤ 7 ∧ 0 ≤ t.sum ∧ t.sum ≤ 6 := by decide +kernel
theorem grow_small : ∀ n : Fin 7, ∀ i : Fin 7, ∀ j : Fin 21, (growL n.val ((lev n.val i.val).take j.val)).length ≤ 20 := by decide +kernel
def spSizeLists (K : PySem.W.Frag) : Sp := fun vs H Q _ => ∃ n : Nat, vs = [.int (n : Int)] ∧ n ≤ 6 ∧ ∀ p H', Ex H H' → Rd K (fun a => H a = none) H' 2 (.ref p) (list2 (foundL n n)) → Q (.ref p) H'
theorem ok_law_size_lists (T : TK K mg) : FnOk P w K mg base CX0 1 T.law_size_lists.a T.law_size_lists.fd ["k"] (spSizeLists K) := by
  refine T.law_size_lists.F.ok sc_law_size_lists (fun vs H Q E h => ?_) (fun cdv A outer s H vs Q E hr h => ?_)
  · obtain ⟨n, rfl, _⟩ := h; rfl
  obtain ⟨n, rfl, hn, q⟩ := h
  refine ⟨_, (pss_cons (ps_par (i := 1) (j := 2) (by rfl) sc_law_size_lists.nd rfl rfl (by decide) rfl rfl (pa_cons (pe_lst pa_nil) (pa_cons (pe_lst (pa_cons (pe_lst pa_nil) pa_nil)) pa_nil)) (by rfl))
    (pss_cons (ps_for PassesOwn.never rfl (pi_range1 rfl T.z_range (pa_cons (pv 0) pa_nil)) (pg_name (i := 3) sc_law_size_lists.nd rfl (Or.inl rfl)) (pss_cons (ps_set (i := 4) sc_law_size_lists.nd rfl (Or.inl rfl) (pe_lst pa_nil))
    (pss_cons (ps_for PassesOwn.never rfl (kpil K (pv 2)) (pg_name (i := 5) sc_law_size_lists.nd rfl (Or.inr rfl)) (pss_one (ps_expr (pe_bm PySem.F.plainAttrs_list PySem.F.slot_list_extend PySem.F.type_list_extend mt_extend (pv 4) (pa_cons (pe_lc (own := [("size", 6)]) (g := gName 6) (by rfl) sc_law_size_lists.nd (pi_range2 rfl T.z_range (pa_cons pe_int (pa_cons (pe_op op_add (pe_op op_sub (pe_op op_sub (pv 0) (pe_callB (ksum K rfl) (by rfl) T.z_sum (by decide +kernel) (pa_cons (pv 5) pa_nil))) (pe_callB (klen K) (by rfl) T.z_len (by decide +kernel) (pa_cons (pv 5) pa_nil))) pe_int) pa_nil))) (blkOk_by (own := [("size", 6)]) (N := ["k", "found", "grown", "turn", "longer", "one", "size"]) (sc := defScope s_law_size_lists) (by decide +kernel)) (fun _ _ _ _ _ => (pg_name (i := 6) sc_law_size_lists.nd rfl (Or.inl rfl))) (fun _ _ _ _ _ => pts_nil) (fun _ _ _ _ _ => (pe_op op_cat (pv 5) (pe_lst (pa_cons (pv 6) pa_nil))))) pa_nil)))))
    (pss_cons (ps_expr (pe_bm PySem.F.plainAttrs_list PySem.F.slot_list_extend PySem.F.type_list_extend mt_extend (pv 1) (pa_cons (pv 4) pa_nil)))
    (pss_one (ps_set (i := 2) sc_law_size_lists.nd rfl (Or.inl rfl) (pv 4)))))))
    (pss_one (ps_ret (pv 1))))), ?_⟩
  refine ⟨Nat.zero_le _, fun F hF => ⟨Nat.zero_le _, fun z hz => ⟨one_le, fun g0 hg => ⟨_, _, rfl, ?_⟩⟩⟩⟩
  have x1 := Ex.new (o := .lst []) hF
  have x2 := Ex.new (o := .lst []) hz
  have x3 := Ex.new (o := .lst [.ref z]) hg
  have f1 := x3 _ _ (x2 _ _ (upd_same (H := H) (a := F) (o := .lst [])))
  have f2 := x3 _ _ (upd_same (H := upd H F (.lst [])) (a := z) (o := .lst []))
  have f3 := upd_same (H := upd (upd H F (.lst [])) z (.lst [])) (a := g0) (o := .lst [.ref z])
  have z0 : H z = none := fresh_back x1 hz
  have g00 : H g0 = none := fresh_back (x1.trans x2) hg
  have zF : z ≠ F := by rintro rfl; rw [upd_same] at hz; cases hz
  have gF : g0 ≠ F := by rintro rfl; have := x2 _ _ (upd_same (H := H) (a := g0) (o := .lst [])); rw [hg] at this; cases this
  have xx := (x1.trans x2).trans x3
  generalize upd (upd (upd H F (.lst [])) z (.lst [])) g0 (.lst [.ref z]) = H1 at xx f1 f2 f3 ⊢
  refine ⟨_, rfl, (n : Int), rfl, by omega, by omega, for_range (lo := 0) (n := ((n : Int)).toNat) (fun i σ G => Ex H G ∧ ∃ (g : Addr) (xs gs : List V) (v3 v4 v5 : Option V), G F = some (.lst xs) ∧ RdL K (fun a => H a = none ∧ a ≠ F) G 1 xs ((foundL n i).map listI) ∧ G g = some (.lst gs) ∧ H g = none ∧ g ≠ F ∧ RdL K (fun a => H a = none ∧ a ≠ F) G 1 gs ((lev n i).map listI) ∧ σ = [some (.int (n : Int)), some (.ref F), some (.ref g), v3, v4, v5, none])
    ⟨xx, g0, [], [.ref z], _, _, _, f1, RdL.nil, f3, g00, gF, RdL.cons (.lst f2 ⟨z0, zF⟩ rfl (Nat.zero_le _) fun i x d hx _ => by cases hx) RdL.nil, rfl⟩ ?_ ?_⟩
  · rintro i σ G hi ⟨eg, g, xs, gs, v3, v4, v5, hFG, rF, hgG, gn, gF, rG, rfl⟩
    rw [Int.zero_add]
    have hi' : i < n := by omega
    have sm := lev_small ⟨n, by omega⟩ ⟨i, by omega⟩
    have sm1 := lev_small ⟨n, by omega⟩ ⟨i + 1, by omega⟩
    simp only at sm sm1
    have lx : xs.length ≤ 40 := by rw [rF.1, List.length_map]; exact sm.1
    have lg : gs.length = (lev n i).length := by rw [rG.1, List.length_map]
    refine ⟨Nat.zero_le _, fun L hL => ?_⟩
    have LF : L ≠ F := by rintro rfl; rw [hFG] at hL; cases hL
    have L0 : H L = none := fresh_back eg hL
    refine ⟨_, rfl, g, rfl, ⟨_, SqL.of ((Ex.new hL) _ _ hgG)⟩, for_list (xs := gs) (fun j σ G' => Ex G G' ∧ ∃ (ls : List V) (v5 : Option V), G' L = some (.lst ls) ∧ RdL K (fun a => G a = none ∧ a ≠ L) G' 1 ls ((growL n ((lev n i).take j)).map listI) ∧ σ = [some (.int (n : Int)), some (.ref F), some (.ref g), some (.int (i : Int)), some (.ref L), v5, none])
      ⟨Ex.new hL, [], _, upd_same, RdL.nil, rfl⟩ (fun j σ G' _ p => SqL.of (p.1 _ _ hgG)) ?_ ?_⟩
    · rintro j x σ G' hx ⟨eg', ls, v5, hLG, rL, rfl⟩
      have hj := (List.getElem?_eq_some_iff.mp hx).1
      obtain ⟨t, ht⟩ : ∃ t, (lev n i)[j]? = some t := ⟨_, List.getElem?_eq_getElem (by omega)⟩
      have tm := sm.2.2 t (List.mem_of_getElem? ht)
      obtain ⟨o, rfl, _, ho, _⟩ := rd_listI (rG.2 j x (listI t) hx (by rw [List.getElem?_map, ht]; rfl))
      have ho' := eg' _ _ ho
      have gsm := grow_small ⟨n, by omega⟩ ⟨i, by omega⟩ ⟨j, by omega⟩
      have gsm1 := grow_small ⟨n, by omega⟩ ⟨i, by omega⟩ ⟨j + 1, by omega⟩
      simp only at gsm gsm1
      have gt : growL n ((lev n i).take (j + 1)) = growL n ((lev n i).take j) ++ grow1 n t := by
        unfold growL
        rw [List.take_add_one, ht, List.flatMap_append]
        show _ ++ (grow1 n t ++ []) = _
        rw [List.append_nil]
      have lls : ls.length ≤ 20 := by rw [rL.1, List.length_map]; exact gsm
      refine ⟨_, rfl, .inl ⟨rfl, _, SqL.of hLG⟩, ?_⟩
      refine lc_rd2 (K := K) (σ := [some (.int (n : Int)), some (.ref F), some (.ref g), some (.int (i : Int)), some (.ref L), some (.ref o), none]) (H := G') (lo := 1) (n := (n : Int) - t.sum - (t.length : Int) + 1) (m := 1) (vs := [6]) (d := fun k : Nat => listI (t ++ [1 + (k : Int)])) (fun H1 e1 Q q => ⟨_, rfl, _, rfl, o, t, rfl, .inl (ex_l e1 (SqL.of ho')), _, _, rfl, rfl, _, rfl, _, t.length, rfl, .inl ⟨_, ex_l e1 (SqL.of ho'), (List.length_map ..).symm⟩, _, _, rfl, rfl, _, _, rfl, rfl, q _ (Ex.refl _)⟩) ⟨by omega, by omega, by omega, by omega⟩ (fun _ => rfl) (fun k H1 e1 hk Q1 q1 => ?_) (fun p H' e' hp r => ?_)
      · refine ⟨_, rfl, _, rfl, one_le, fun s hs => ⟨o, s, _, _, rfl, rfl, (Ex.new hs) _ _ (e1 _ _ ho'), upd_same, Nat.le_of_lt (small1000 (by rw [List.length_map]; show _ + 1 ≤ 1000; omega)), fun p hp => q1 _ _ ((Ex.new hs).trans (Ex.new hp)) ?_⟩⟩
        exact rd_ilist (ns := t ++ [1 + (k : Int)]) (by rw [upd_same, List.map_append]; rfl) (fresh_back (Ex.new hs) hp) (by rw [List.length_append]; show _ + 1 ≤ 900; omega)
      · have r' : Rd K (fun a => G' a = none) H' 2 (.ref p) (.list ((grow1 n t).map listI)) := by
          unfold grow1
          rw [List.map_map]
          rw [show ((n : Int) - t.sum - (t.length : Int) + 1 - 1).toNat = ((n : Int) - t.sum - (t.length : Int)).toNat by omega] at r
          exact r
        obtain ⟨zs, hzs, _, hzl, _, hza⟩ := rd_lst_at r'
        have pL : p ≠ L := by rintro rfl; rw [hLG] at hp; cases hp
        rw [List.length_map] at hzl
        have lz : zs.length ≤ 20 := by
          rw [hzl]
          rw [gt, List.length_append] at gsm1
          omega
        refine ⟨L, p, ls, zs, rfl, rfl, e' _ _ hLG, hzs, Nat.le_of_lt (small1000 (by omega)), (eg'.trans e').mut hL, ls ++ zs, _, upd_same, ?_, rfl⟩
        rw [gt, List.map_append]
        have rz : RdL K (fun a => G a = none ∧ a ≠ L) H' 1 zs ((grow1 n t).map listI) := ⟨by rw [List.length_map, hzl], fun i x d hx hd => (hza i x d hx hd).of fun a ha => ⟨fresh_back eg' ha, fun e => by rw [e, hLG] at ha; cases ha⟩⟩
        exact ((rL.ex e').but (b := L) But.upd (fun a ha => ha.2)).app (rz.but (b := L) But.upd (fun a ha => ha.2))
    · rintro σ G' ⟨eg', ls, v5, hLG, rL, rfl⟩
      rw [lg, List.take_length] at rL
      have lls : ls.length ≤ 20 := by rw [rL.1, List.length_map]; exact sm1.2.1
      have hFG' := eg' _ _ hFG
      have rL' : RdL K (fun a => H a = none ∧ a ≠ F) G' 1 ls ((lev n (i + 1)).map listI) := rL.of fun a ha => ⟨fresh_back eg ha.1, fun e => by have := ha.1; rw [e, hFG] at this; cases this⟩
      refine ⟨_, rfl, .inl ⟨rfl, _, SqL.of hFG'⟩, _, rfl, F, L, xs, ls, rfl, rfl, hFG', hLG, Nat.le_of_lt (small1000 (by omega)), ?_⟩
      refine ⟨_, rfl, (eg.trans eg').mut hF, L, xs ++ ls, ls, _, _, _, upd_same, ?_, by rw [upd_ne LF]; exact hLG, L0, LF, rL'.but (b := F) But.upd (fun a ha => ha.2), rfl⟩
      have ef : foundL n (i + 1) = foundL n i ++ lev n (i + 1) := by
        unfold foundL
        rw [List.range_succ, List.flatMap_append]
        show _ ++ (_ ++ []) = _
        rw [List.append_nil]
      rw [ef, List.map_append]
      exact ((rF.ex eg').but (b := F) But.upd (fun a ha => ha.2)).app (rL'.but (b := F) But.upd (fun a ha => ha.2))
  · rintro σ G ⟨eg, g, xs, gs, v3, v4, v5, hFG, rF, hgG, gn, gF, rG, rfl⟩
    have sm := lev_small ⟨n, by omega⟩ ⟨n, by omega⟩
    simp only at sm
    rw [Int.toNat_natCast] at rF
    exact ⟨_, rfl, q F G eg (.lst hFG hF rF.1 (by rw [rF.1, List.length_map]; omega) fun i x d hx hd => (rF.2 i x d hx hd).of fun a ha => ha.1)⟩
end
end L2.U


set_option Elab.async false
set_option linter.all false
set_option maxRecDepth 100000
set_option maxHeartbeats 4000000
namespace L2.U
open PySem PySem.Spec PyProof.Rows Evl
section
variable {P : Program} {w : World} {K : PySem.W.Frag} {mg : Str → Option Value} {base : Heap}
def stI (k : Nat) (s : List Int) (i : Nat) : Int × Int := (s.take i).foldl (fun st z => (st.1 * Cb st.2.toNat z.toNat, st.2 - z - 1)) (1, (k : Int))
theorem stI_step {k : Nat} {s : List Int} {i : Nat} {z : Int} (h : s[i]? = some z) : stI k s (i + 1) = ((stI k s i).1 * Cb (stI k s i).2.toNat z.toNat, (stI k s i).2 - z - 1) := by
  unfold stI
  rw [List.take_add_one, h, List.foldl_append]
  rfl
theorem run_in : ∀ k : Fin 7, ∀ s ∈ foundL k.val k.val, (∀ i ∈ List.range s.length, 1 ≤ s.getD i 0 ∧ s.getD i 0 ≤ (stI k.val s i).2 ∧ (stI k.val s i).2 ≤ 6 ∧ 0 ≤ (stI k.val s i).1 ∧ (stI k.val s i).1 < 2 ^ 40) ∧ s.length ≤ 10 ∧
  0 ≤ (stI k.val s s.length).2 + 1 ∧ (stI k.val s s.length).2 + 1 < (k.val : Int) ∧ (stI k.val s s.length).1 ≤ vR k.val ((stI k.val s s.length).2 + 1).toNat := by decide +kernel
theorem run_ev : ∀ k : Fin 7, ∀ l : Fin 7, l.val < k.val → ∃ s ∈ foundL k.val k.val, (stI k.val s s.length).2 + 1 = (l.val : Int) ∧ (stI k.val s s.length).1 = vR k.val l.val := by decide +kernel
def GoodS (x : Int) (ns : List Int) (k : Nat) (s : List Int) : Prop := x ≤ (stI k s s.length).1 ∧ canT ns ((stI k s s.length).2 + 1).toNat = true
theorem listed_true {x : Int} {ns : List Int} {k : Nat} {s : List Int} (hk : k ≤ 6) (hs : s ∈ foundL k k) (g : GoodS x ns k s) : canT (x :: ns) k = true := by
  obtain ⟨g1, g2⟩ := g
  obtain ⟨_, _, f1, f2, f3⟩ := run_in ⟨k, by omega⟩ s hs
  simp only at f1 f2 f3
  exact canT_cons.mpr ⟨((stI k s s.length).2 + 1).toNat, by omega, Int.le_trans g1 f3, g2⟩
theorem listed_false {x : Int} {ns : List Int} {k : Nat} (hk : k ≤ 6) (no : ∀ s ∈ foundL k k, ¬ GoodS x ns k s) : canT (x :: ns) k = false := by
  refine Bool.eq_false_iff.mpr fun c => ?_
  obtain ⟨l, hl, c1, c2⟩ := canT_cons.mp c
  obtain ⟨s, hs, e1, e2⟩ := run_ev ⟨k, by omega⟩ ⟨l, by omega⟩ hl
  simp only at e1 e2 hs
  refine no s hs ⟨by rw [e2]; exact c1, ?_⟩
  rw [e1, Int.toNat_natCast]
  exact c2
def spListed (K : PySem.W.Frag) (i : Nat) : Sp := fun vs H Q _ => ∃ (a : Addr) (ns : List Int) (k : Nat), vs = [.ref a, .int (k : Int)] ∧ H a = some (.lst (ns.map V.int)) ∧ ns.length < i ∧ ns.length ≤ 60 ∧ k ≤ 6 ∧ ∀ H', Ex H H' → Q (.bl (canT ns k)) H'
theorem listed_step (T : TK K mg) (i : Nat) (ih : FnOk P w K mg base CX0 (i + 1) T.law_listed.a T.law_listed.fd ["row", "k"] (spListed K i)) : FnOk P w K mg base CX0 (i + 2) T.law_listed.a T.law_listed.fd ["row", "k"] (spListed K (i + 1)) := by
  refine T.law_listed.F.ok sc_law_listed (fun vs H Q E h => ?_) (fun cdv A outer s H vs Q E hr h => ?_)
  · obtain ⟨a, ns, k, rfl, _⟩ := h; rfl
  obtain ⟨a, ns, k, rfl, ha, hl, hl60, hk, q⟩ := h
  refine ⟨_, (pss_cons (ps_if (pt_cmpR (keqD K hr.units) (pv 0) (pe_lst pa_nil) (nomark _)) (pss_one (ps_ret pe_bl)) pss_nil)
    (pss_cons (ps_for PassesOwn.never rfl (kpil K (pe_call (ok_law_size_lists T) (hr.mono (by omega)) rfl T.law_size_lists.m T.law_size_lists.F.kp T.law_size_lists.b .nil pass0 (pa_cons (pv 1) pa_nil))) (pg_name (i := 2) sc_law_listed.nd rfl (Or.inl rfl)) (pss_cons (ps_par (i := 3) (j := 4) (by rfl) sc_law_listed.nd rfl rfl (by decide) rfl rfl (pa_cons (pv 1) (pa_cons pe_int pa_nil)) (by rfl))
    (pss_cons (ps_for PassesOwn.never rfl (kpil K (pv 2)) (pg_name (i := 5) sc_law_listed.nd rfl (Or.inl rfl)) (pss_one (ps_par (i := 4) (j := 3) (by rfl) sc_law_listed.nd rfl rfl (by decide) rfl rfl (pa_cons (pe_op op_mul (pv 4) (pe_call (ok_law_choose T) (hr.mono (by omega)) rfl T.law_choose.m T.law_choose.F.kp T.law_choose.b .nil pass0 (pa_cons (pv 3) (pa_cons (pv 5) pa_nil)))) (pa_cons (pe_op op_sub (pe_op op_sub (pv 3) (pv 5)) pe_int) pa_nil)) (by rfl))))
    (pss_one (ps_if (PW.pt (pw_and (pt_cmpR op_ge (pv 4) (pe_ix (kixl K) (pv 0) pe_int (fun _ _ => rfl)) (nomark _)) (pw_and1 (pt_val (pe_call (ih) (hr.mono (by omega)) rfl T.law_listed.m T.law_listed.F.kp T.law_listed.b .nil pass0 (pa_cons (pe_slice (kslL K) (pv 0) (po_some pe_int) po_none) (pa_cons (pe_op op_add (pv 3) pe_int) pa_nil))))))) (pss_one (ps_ret pe_bl)) pss_nil)))))
    (pss_one (ps_ret pe_bl)))), ?_⟩
  refine ⟨_, rfl, Nat.zero_le _, fun z hz => ?_⟩
  have e1 := Ex.new (o := .lst []) hz
  have ra : Rd K (fun _ => True) (upd H z (.lst [])) 1 (.ref a) (.list (ns.map PyData.int)) := rd_ilist (e1 _ _ ha) trivial (by omega)
  have rz : Rd K (fun _ => True) (upd H z (.lst [])) 1 (.ref z) (.list []) := .lst upd_same trivial rfl (Nat.zero_le _) (fun i x d hx _ => by cases hx)
  refine ⟨_, _, ra.dp, rz.dp, ra.shaped (by omega), rz.shaped (by omega), _, rfl, ?_⟩
  generalize upd H z (.lst []) = H1 at e1 ⊢
  cases ns with
  | nil => exact iteT (q H1 e1)
  | cons x ns =>
  refine iteF ?_
  refine ⟨_, rfl, k, rfl, hk, fun p H2 e2 rp => ?_⟩
  have e12 := e1.trans e2
  obtain ⟨vs, hv, _, hvl, _, hva⟩ := rd_lst_at rp
  rw [List.length_map] at hvl
  refine ⟨p, rfl, ⟨_, SqL.of hv⟩, for_list (xs := vs) (fun j σ H' => Ex H2 H' ∧ (∀ j' s, j' < j → (foundL k k)[j']? = some s → ¬ GoodS x ns k s) ∧ ∃ v2 v3 v4 v5 : Option V, σ = [some (.ref a), some (.int (k : Int)), v2, v3, v4, v5])
    ⟨Ex.refl _, (fun j' s hj _ => absurd hj (Nat.not_lt_zero _)), _, _, _, _, rfl⟩ (fun j σ H' _ p => SqL.of (p.1 _ _ hv)) ?_ ?_⟩
  · rintro j v σ H3 hj ⟨e3, no, v2, v3, v4, v5, rfl⟩
    have hj1 := (List.getElem?_eq_some_iff.mp hj).1
    obtain ⟨t, ht⟩ : ∃ t, (foundL k k)[j]? = some t := ⟨_, List.getElem?_eq_getElem (by omega)⟩
    have tm := List.mem_of_getElem? ht
    obtain ⟨f1, f2, f3, f4, f5⟩ := run_in ⟨k, by omega⟩ t tm
    simp only at f1 f3 f4 f5
    obtain ⟨o, rfl, _, ho, _⟩ := rd_listI (hva j v (listI t) hj (by rw [List.getElem?_map, ht]; rfl))
    have ho3 := e3 _ _ ho
    have ha3 := e3 _ _ (e12 _ _ ha)
    have nx : ∀ (H4 : Hp) (v2 v3 v4 v5 : Option V), Ex H3 H4 → ¬ GoodS x ns k t → (fun j σ H' => Ex H2 H' ∧ (∀ j' s, j' < j → (foundL k k)[j']? = some s → ¬ GoodS x ns k s) ∧ ∃ v2 v3 v4 v5 : Option V, σ = [some (V.ref a), some (.int (k : Int)), v2, v3, v4, v5]) (j + 1) [some (.ref a), some (.int (k : Int)), v2, v3, v4, v5] H4 := fun H4 v2 v3 v4 v5 e4 ng =>
      ⟨e3.trans e4, fun j' s hj' hs => by
        by_cases c : j' = j
        · rw [c, ht] at hs; cases hs; exact ng
        · exact no j' s (by omega) hs, _, _, _, _, rfl⟩
    refine ⟨_, rfl, _, _, rfl, ?_⟩
    refine ⟨_, rfl, o, rfl, ⟨_, SqL.of ho3⟩, for_list (xs := t.map V.int) (fun i σ H' => H' = H3 ∧ ∃ v5 : Option V, σ = [some (.ref a), some (.int (k : Int)), some (.ref o), some (.int (stI k t i).2), some (.int (stI k t i).1), v5]) ⟨rfl, _, rfl⟩ (fun i σ H' _ p => p.1 ▸ SqL.of ho3) ?_ ?_⟩
    · rintro i y σ H4 hy ⟨rfl, v5, rfl⟩
      obtain ⟨z, hz, rfl⟩ := ints_get hy
      have hi := (List.getElem?_eq_some_iff.mp hz).1
      obtain ⟨g1, g2, g3, g4, g5⟩ := f1 i (List.mem_range.mpr hi)
      have gz : t.getD i 0 = z := by rw [List.getD_eq_getElem?_getD, hz]; rfl
      rw [gz] at g1 g2
      have st := stI_step (k := k) hz
      rw [st]
      refine ⟨_, rfl, _, rfl, _, rfl, (stI k t i).2.toNat, z.toNat, by rw [Int.toNat_of_nonneg (by omega), Int.toNat_of_nonneg (by omega)]; rfl, by omega, by omega, _, _, rfl, rfl, .inl ⟨by omega, by omega⟩, _, rfl, _, rfl, _, _, rfl, rfl, _, _, rfl, rfl, _, _, rfl, rfl, some (.int z), rfl⟩
    · rintro σ H4 ⟨rfl, v5, rfl⟩
      rw [List.length_map]
      refine ⟨_, rfl, _, rfl, a, _, 0, .int x, rfl, rfl, SqL.of ha3, at_of (show (0 : Int) = ((0 : Nat) : Int) from rfl) rfl, _, _, rfl, rfl, _, rfl, ite2 (fun c => ?_) (fun c => ?_)⟩
      · have c := of_decide_eq_true c
        refine ⟨_, rfl, 1, rfl, a, _, rfl, SqL.of ha3, fun u hu => ?_⟩
        have e6 := Ex.new (o := .lst (cutV ((x :: ns).map V.int) (some 1) none)) hu
        have cd : cutV ((x :: ns).map V.int) (some 1) none = ns.map V.int := by
          rw [show (1 : Int) = ((1 : Nat) : Int) from rfl, cutV_drop (by rw [List.length_map]; exact Nat.succ_pos _)]
          rfl
        refine ⟨_, rfl, _, _, rfl, rfl, u, ns, ((stI k t t.length).2 + 1).toNat, by rw [Int.toNat_of_nonneg f3]; rfl, by rw [upd_same, cd], by (have : ns.length + 1 < i + 1 := hl); omega, by (have : ns.length + 1 ≤ 60 := hl60); omega, by omega, fun H7 e7 => ⟨_, rfl, ite2 (fun c3 => ?_) (fun c3 => ?_)⟩⟩
        · have := q H7 (e12.trans (e3.trans (e6.trans e7)))
          rw [listed_true hk tm ⟨c, c3⟩] at this
          exact this
        · exact nx H7 _ _ _ _ (e6.trans e7) fun g => c3 g.2
      · exact iteF (nx _ _ _ _ _ (Ex.refl _) fun g => c (decide_eq_true g.1))
  · rintro σ H3 ⟨e3, no, v2, v3, v4, v5, rfl⟩
    have := q H3 (e12.trans e3)
    rw [listed_false hk fun s hs => by
      obtain ⟨j, hj⟩ := List.mem_iff_getElem?.mp hs
      exact no j s (by have := (List.getElem?_eq_some_iff.mp hj).1; omega) hj] at this
    exact this
theorem ok_listed (T : TK K mg) : ∀ i, FnOk P w K mg base CX0 (i + 1) T.law_listed.a T.law_listed.fd ["row", "k"] (spListed K i)
  | 0 => (none_left fun vs H Q E h => by obtain ⟨a, ns, k, _, _, hl, _⟩ := h; exact absurd hl (Nat.not_lt_zero _)).mono (Nat.zero_le _)
  | i + 1 => listed_step T i (ok_listed T i)
theorem ok_law_listed (T : TK K mg) : FnOk P w K mg base CX0 5 T.law_listed.a T.law_listed.fd ["row", "k"] (spListed K 4) := ok_listed T 4
def spLToldW (K : PySem.W.Frag) : Sp := fun vs H Q _ => ∃ (a : Addr) (ns : List Int) (k : Nat) (named : Int), vs = [.ref a, .int (k : Int), .int named] ∧ H a = some (.lst (ns.map V.int)) ∧ GoodR ns ∧ k ≤ 24 ∧ ∀ H', Ex H H' → Q (.bl (canT ns k)) H'
theorem ok_law_told (T : TK K mg) : FnOk P w K mg base CX0 10 T.law_told.a T.law_told.fd ["row", "wires", "named"] (spLToldW K) := by
  refine T.law_told.F.ok sc_law_told (fun vs H Q E h => ?_) (fun cdv A outer s H vs Q E hr h => ?_)
  · obtain ⟨a, ns, k, named, rfl, _⟩ := h; rfl
  obtain ⟨a, ns, k, named, rfl, ha, g, hk, q⟩ := h
  refine ⟨_, (pss_cons (ps_set (i := 3) sc_law_told.nd rfl (Or.inl rfl) (pe_callTy (klist K) (by rfl) T.z_list (by decide +kernel) (pa_cons (pv 0) pa_nil)))
    (pss_cons (ps_if (pt_cmpR op_eq (pv 2) pe_int (nomark _)) (pss_one (ps_set (i := 4) sc_law_told.nd rfl (Or.inl rfl) (pe_call (ok_can_raise T) (hr.mono (by decide)) rfl T.can_raise.m T.can_raise.F.kp T.can_raise.b .nil pass0 (pa_cons (pv 3) (pa_cons (pv 1) pa_nil))))) (pss_one (ps_if (pt_cmpR op_eq (pv 2) pe_int (nomark _)) (pss_one (ps_set (i := 4) sc_law_told.nd rfl (Or.inl rfl) (by exact (pe_callKw (ok_can_raise T) (hr.mono (by decide)) rfl T.can_raise.m T.can_raise.F.kp T.kb_can_raise_wires_row (fun σ => pass0At) (pk_cons (pv 1) (pk_cons (pv 3) pk_nil)))))) (pss_one (ps_ret (pe_call (ok_can_raise T) (hr.mono (by decide)) rfl T.can_raise.m T.can_raise.F.kp T.can_raise.b .nil pass0 (pa_cons (pe_callTy (ktuple K) (by rfl) T.z_tuple (by decide +kernel) (pa_cons (pv 3) pa_nil)) (pa_cons (pv 1) pa_nil))))))))
    (pss_one (ps_ret (pe_ifExp (pt_val (pe_call (ok_law_same T.toTA1) (hr.mono (by decide)) rfl T.law_same.m T.law_same.F.kp T.law_same.b .nil pass0 (pa_cons (pv 3) (pa_cons (pv 0) pa_nil)))) (pv 4) pe_non))))), ?_⟩
  have l9 : ns.length ≤ 900 := by have := g.1; omega
  have nl : numsD (.list (ns.map PyData.int)) = ns := nums_map
  have nt : numsD (.tuple (ns.map PyData.int)) = ns := nums_map
  refine ⟨_, rfl, a, _, rfl, .inl (SqL.of ha), fun c hc => ?_⟩
  have e1 := Ex.new (o := .lst (ns.map V.int)) hc
  have hc1 := upd_same (H := H) (a := c) (o := .lst (ns.map V.int))
  have ha1 := e1 _ _ ha
  generalize upd H c (.lst (ns.map V.int)) = H1 at e1 hc1 ha1 ⊢
  have rc : Rd K (fun _ => True) H1 1 (.ref c) (.list (ns.map PyData.int)) := rd_ilist hc1 trivial l9
  have sm : ∀ G, Ex H1 G → Sm K G 8 (.ref c) (.ref a) := fun G e => ((rd_ilist (ok := fun _ => True) (e _ _ hc1) trivial l9).le (by omega)).sm ((rd_ilist (ok := fun _ => True) (e _ _ ha1) trivial l9).le (by omega))
  refine ⟨_, rfl, rfl, _, rfl, ite2 (fun _ => ?_) (fun _ => ?_)⟩
  · refine ⟨_, rfl, _, rfl, .ref c, _, 1, _, k, rfl, rc, row_list g, hk, fun H2 e2 => ?_⟩
    rw [nl, canG_canT ns k hk]
    exact ⟨_, rfl, _, rfl, .ref c, .ref a, rfl, sm H2 e2, fun H3 e3 => ⟨_, rfl, iteT ⟨_, rfl, q H3 ((e1.trans e2).trans e3)⟩⟩⟩
  refine ⟨_, rfl, rfl, _, rfl, ite2 (fun _ => ?_) (fun _ => ?_)⟩
  · refine ⟨_, rfl, _, rfl, .ref c, _, 1, _, k, rfl, rc, row_list g, hk, fun H2 e2 => ?_⟩
    rw [nl, canG_canT ns k hk]
    exact ⟨_, rfl, _, rfl, .ref c, .ref a, rfl, sm H2 e2, fun H3 e3 => ⟨_, rfl, iteT ⟨_, rfl, q H3 ((e1.trans e2).trans e3)⟩⟩⟩
  refine ⟨_, rfl, c, _, rfl, .inl ⟨SqL.of hc1, fun t ht => ⟨_, rfl, .ref t, _, 1, _, k, rfl, rd_ituple (ok := fun _ => True) (SqT.of upd_same) trivial l9, row_tup g, hk, fun H2 e2 => ?_⟩⟩⟩
  rw [nt, canG_canT ns k hk]
  exact q H2 ((e1.trans (Ex.new ht)).trans e2)
end
end L2.U


set_option Elab.async false
set_option linter.all false
set_option maxRecDepth 100000
set_option maxHeartbeats 4000000
namespace L2.U
open PySem PySem.Spec PyProof.Rows Evl
section
variable {P : Program} {w : World} {K : PySem.W.Frag} {mg : Str → Option Value} {base : Heap}
def GoodN (L : Nat) (ns : List Int) : Prop := ns.length ≤ L ∧ ∀ z ∈ ns, 1 ≤ z ∧ z ≤ 100000000000000000000000000000
def spLRow (K : PySem.W.Frag) : Sp := fun vs H Q _ => ∃ (b p : Addr) (k w j : Nat) (many : Int) (ok : Addr → Prop), vs = [.ref b, .ref p, .int many, .int (w : Int)] ∧ BoxAt H b (k + 60) ∧ w ≤ 24 ∧ 0 ≤ many ∧ many ≤ 16 ∧ Rd K ok H j (.ref p) (list2 (rT 25)) ∧ (∀ a, ok a → a ≠ b) ∧
  ∀ q ns H', H q = none → H' q = some (.lst (ns.map V.int)) → GoodN many.toNat ns → BoxAt H' b k → But b H H' → Q (.ref q) H'
theorem eight_le : 8 ≤ sizeLine := by decide
theorem ok_law_row (T : TK K mg) : FnOk P w K mg base CX0 2 T.law_row.a T.law_row.fd ["box", "raised", "many", "wires"] (spLRow K) := by
  refine T.law_row.F.ok sc_law_row (fun vs H Q E h => ?_) (fun cdv A outer s H vs Q E hr h => ?_)
  · obtain ⟨b, p, k, w, j, many, ok, rfl, _⟩ := h; rfl
  obtain ⟨b, p, k, w, j, many, ok, rfl, hB, hw, m0, m16, hp, okb, q⟩ := h
  refine ⟨_, (pss_cons (ps_par3 (i := 4) (j := 5) (l := 6) (by rfl) sc_law_row.nd rfl rfl rfl (by decide) (by decide) (by decide) rfl rfl rfl (pa_cons (pe_lst pa_nil) (pa_cons (pv 3) (pa_cons (pe_call (ok_law_take T.toTA1) (hr.mono (by decide)) rfl T.law_take.m T.law_take.F.kp T.law_take.b .nil pass0 (pa_cons (pv 0) (pa_cons pe_int pa_nil))) pa_nil))) (by rfl))
    (pss_cons (ps_for PassesOwn.never rfl (pi_range1 rfl T.z_range (pa_cons (pv 2) pa_nil)) (pg_name (i := 7) sc_law_row.nd rfl (Or.inl rfl)) (pss_cons (ps_par (i := 8) (j := 9) (by rfl) sc_law_row.nd rfl rfl (by decide) rfl rfl (pa_cons (pe_call (ok_law_take T.toTA1) (hr.mono (by decide)) rfl T.law_take.m T.law_take.F.kp T.law_take.b .nil pass0 (pa_cons (pv 0) (pa_cons pe_int pa_nil))) (pa_cons (pe_callB (call_min2 rfl) (by rfl) T.z_min (by decide +kernel) (pa_cons (pv 5) (pa_cons (pe_ifExp (PW.pt (pw_and (pt_cmpR op_eq (pv 6) pe_int (nomark _)) (pw_and1 (pt_cmpR op_lt (pv 2) pe_int (nomark _))))) pe_int pe_int) pa_nil))) pa_nil)) (by rfl))
    (pss_cut (ps_set (i := 10) sc_law_row.nd rfl (Or.inl rfl) (pe_ifExp (pt_cmpR op_gt (pv 5) pe_int (nomark _)) (pe_op op_sub (pe_op op_sub (pv 5) pe_int) (pe_call (ok_law_take T.toTA1) (hr.mono (by decide)) rfl T.law_take.m T.law_take.F.kp T.law_take.b .nil pass0 (pa_cons (pv 0) (pa_cons (pv 9) pa_nil)))) pe_int))
    (pss_cut (ps_set (i := 11) sc_law_row.nd rfl (Or.inl rfl) (pe_ifExp (pt_cmpR op_gt (pv 5) pe_int (nomark _)) (pe_ix (kixl K) (pe_ix (kixl K) (pv 1) (pv 5) (fun _ _ => rfl)) (pv 10) (fun _ _ => rfl)) (pe_op op_add pe_int (pe_call (ok_law_take T.toTA1) (hr.mono (by decide)) rfl T.law_take.m T.law_take.F.kp T.law_take.b .nil pass0 (pa_cons (pv 0) (pa_cons pe_int pa_nil))))))
    (pss_cons (ps_expr (pe_bm PySem.F.plainAttrs_list PySem.F.slot_list_append PySem.F.type_list_append mt_append (pv 4) (pa_cons (pe_ix (kixl K) (pe_lst (pa_cons pe_int (pa_cons (pv 11) (pa_cons (pv 11) (pa_cons (pv 11) (pa_cons (pv 11) (pa_cons (pe_op op_add (pv 11) (pe_callTy call_int1 (by rfl) T.z_int (by decide +kernel) (pa_cons (pe_cmpR op_eq (pv 5) pe_int (nomark _)) pa_nil))) (pa_cons (pe_callB (call_max2 rfl) (by rfl) T.z_max (by decide +kernel) (pa_cons pe_int (pa_cons (pe_op op_sub (pv 11) pe_int) pa_nil))) (pa_cons (pe_callB (call_max2 rfl) (by rfl) T.z_max (by decide +kernel) (pa_cons pe_int (pa_cons (pe_op op_fdiv (pv 11) pe_int) pa_nil))) pa_nil))))))))) (pv 8) (fun _ _ => rfl)) pa_nil)))
    (pss_one (ps_set (i := 5) sc_law_row.nd rfl (Or.inl rfl) (pv 10))))))))
    (pss_one (ps_ret (pv 4))))), ?_⟩
  refine ⟨Nat.zero_le _, fun F hF => ⟨_, rfl, _, rfl, b, 2, k + 59, rfl, by decide, by decide, hB.ex (Ex.new hF), fun th H1 _ _ B1 k1 => ⟨_, _, _, rfl, ?_⟩⟩⟩
  have Fb : F ≠ b := hB.ne hF
  have kb1 := (But.of (b := b) (Ex.new (o := .lst []) hF)).trans k1
  have hF1 := k1 _ _ Fb (upd_same (H := H) (a := F) (o := .lst []))
  refine ⟨_, rfl, many, rfl, by omega, by omega, for_range (lo := 0) (n := many.toNat) (fun i σ H' => BoxAt H' b (k + 3 * (17 - i)) ∧ But b H H' ∧ ∃ (ns : List Int) (c : Nat) (v7 v8 v9 v10 v11 : Option V), H' F = some (.lst (ns.map V.int)) ∧ ns.length ≤ i ∧ (∀ z ∈ ns, 1 ≤ z ∧ z ≤ 100000000000000000000000000000) ∧ c ≤ 24 ∧ σ = [some (.ref b), some (.ref p), some (.int many), some (.int (w : Int)), some (.ref F), some (.int (c : Int)), some (.int th), v7, v8, v9, v10, v11])
    ⟨B1.le (by omega), kb1, [], w, _, _, _, _, _, hF1, Nat.le_refl _, (fun z hz => by cases hz), hw, rfl⟩ ?_ ?_⟩
  · rintro i σ H' hi ⟨B, kb, ns, c, v7, v8, v9, v10, v11, hFF, hl, hz, hc, rfl⟩
    rw [Int.zero_add]
    have hi17 : i < 17 := by omega
    refine ⟨_, rfl, b, 8, k + 3 * (17 - i) - 1, rfl, by decide, by decide, B.le (by omega), fun way H2 w0 w1 B2 k2 => ?_⟩
    have hm : ∃ M : Int, 2 ≤ M ∧ M ≤ 3 ∧ Ev (tIf (tAnd (tTest (tOp rEq (tVar 6) (tC (V.int 1)))) (tTest (tOp (rI0 fun i j => V.bl (decide (i < j))) (tVar 2) (tC (V.int 9))))) (tC (V.int 3)) (tC (V.int 2))) [some (.ref b), some (.ref p), some (.int many), some (.int (w : Int)), some (.ref F), some (.int (c : Int)), some (.int th), some (.int (i : Int)), v8, v9, v10, v11] H2 (.int M) := by
      have ts := et_and (σ := [some (.ref b), some (.ref p), some (.int many), some (.int (w : Int)), some (.ref F), some (.int (c : Int)), some (.int th), some (.int (i : Int)), v8, v9, v10, v11]) (H := H2) (et_test (ev_op (ta := tVar 6) (tb := tC (V.int 1)) (ev_var rfl) ev_c (rv_eq rfl))) (fun _ => et_test (ev_op (r := rI0 fun i j => V.bl (decide (i < j))) (ta := tVar 2) (tb := tC (V.int 9)) (ev_var rfl) ev_c (rv_I0 (g := fun i j => V.bl (decide (i < j))) (i := many) (j := 9))))
      cases hb : (decide (V.int th = V.int 1) && decide (many < 9)) with
      | true => rw [hb] at ts; exact ⟨3, by omega, by omega, ev_if ts (fun _ => ev_c) (fun h => by cases h)⟩
      | false => rw [hb] at ts; exact ⟨2, by omega, by omega, ev_if ts (fun h => by cases h) (fun _ => ev_c)⟩
    obtain ⟨M, M2, M3, evM⟩ := hm
    refine ⟨_, rfl, evM H2 (Ex.refl _) _ fun H3 e3 => ⟨_, _, rfl, _, _, rfl, ?_⟩⟩
    have B3 := B2.ex e3
    have kb3 := (kb.trans k2).trans (But.of e3)
    have hF3 := e3 _ _ (k2 _ _ Fb hFF)
    obtain ⟨N, hN, hN0, hNc, hN3⟩ : ∃ N : Int, (if M < (c : Int) then M else (c : Int)) = N ∧ (0 < c → 1 ≤ N) ∧ N ≤ (c : Int) ∧ N ≤ 3 := ⟨_, rfl, by split <;> omega, by split <;> omega, by split <;> omega⟩
    rw [hN]
    refine ⟨fun σ G => BoxAt G b (k + 3 * (17 - i) - 2) ∧ But b H G ∧ G F = some (.lst (ns.map V.int)) ∧ ∃ l : Nat, (0 < c → l < c) ∧ (c = 0 → l = 0) ∧ σ = [some (.ref b), some (.ref p), some (.int many), some (.int (w : Int)), some (.ref F), some (.int (c : Int)), some (.int th), some (.int (i : Int)), some (.int way), some (.int N), some (.int (l : Int)), v11], ?_, ?_⟩
    · refine ⟨_, rfl, _, _, rfl, rfl, _, rfl, ite2 (fun h => ?_) (fun h => ⟨B3.le (by omega), kb3, hF3, 0, fun z => absurd (decide_eq_true (show 0 < (c : Int) by omega)) h, fun _ => rfl, rfl⟩)⟩
      have h := of_decide_eq_true h
      refine ⟨_, rfl, _, _, rfl, rfl, _, rfl, _, rfl, b, N, k + 3 * (17 - i) - 2, rfl, hN0 (by omega), by omega, B3.le (by omega), fun t H4 t0 t1 B4 k4 => ⟨_, _, rfl, rfl, ?_⟩⟩
      exact ⟨B4, kb3.trans k4, k4 _ _ Fb hF3, ((c : Int) - 1 - t).toNat, fun _ => by omega, fun z => by omega, by rw [Int.toNat_of_nonneg (by omega)]; rfl⟩
    rintro σ G ⟨Bg, kg, hFG, l, hl1, hl0, rfl⟩
    refine ⟨fun σ G => BoxAt G b (k + 3 * (17 - i) - 3) ∧ But b H G ∧ G F = some (.lst (ns.map V.int)) ∧ ∃ y : Int, 1 ≤ y ∧ y ≤ 10000000000000000000000000 ∧ σ = [some (.ref b), some (.ref p), some (.int many), some (.int (w : Int)), some (.ref F), some (.int (c : Int)), some (.int th), some (.int (i : Int)), some (.int way), some (.int N), some (.int (l : Int)), some (.int y)], ?_, ?_⟩
    · refine ⟨_, rfl, _, _, rfl, rfl, _, rfl, ite2 (fun h => ?_) (fun h => ?_)⟩
      · have h := of_decide_eq_true h
        obtain ⟨p', vs, hpe, hvs, _, vall⟩ := rd_raised (hp.but kg okb)
        cases hpe
        obtain ⟨b1, hb1, hbs⟩ := vall c hc
        have vi := val_in ⟨c, by omega⟩ ⟨l, by have := hl1 (by omega); omega⟩ (hl1 (by omega))
        simp only at vi
        exact ⟨_, rfl, _, rfl, p, vs, _, .ref b1, rfl, rfl, SqL.of hvs, atI_nat hb1, _, rfl, b1, _, _, .int (vR c l), rfl, rfl, SqL.of hbs, atI_nat (rowR_at (by have := hl1 (by omega); omega)), Bg.le (by omega), kg, hFG, vR c l, vi.1, vi.2, rfl⟩
      · exact ⟨_, rfl, b, 3, k + 3 * (17 - i) - 3, rfl, by decide, by decide, Bg.le (by omega), fun t H4 t0 t1 B4 k4 => ⟨_, _, rfl, rfl, B4, kg.trans k4, k4 _ _ Fb hFG, 1 + t, by omega, by omega, rfl⟩⟩
    rintro σ G2 ⟨Bg2, kg2, hFG2, y, y1, y2, rfl⟩
    refine ⟨_, rfl, .inl ⟨rfl, _, SqL.of hFG2⟩, _, rfl, _, rfl, _, rfl, _, rfl, _, rfl, _, rfl, rfl, .inr ⟨_, rfl, _, _, rfl, rfl, _, rfl, _, _, rfl, rfl, _, _, rfl, _, rfl, _, _, rfl, rfl, ⟨by omega, by omega⟩, _, _, rfl, eight_le, fun z hz5 => ?_⟩⟩
    obtain ⟨v, hv, hv2⟩ := at_get (xs := [1, y, y, y, y, y + (if decide (V.int (c : Int) = V.int 0) = true then 1 else 0), (if y - 1 > 1 then y - 1 else 1), (if y / 2 > 1 then y / 2 else 1)].map V.int) w0 (by show way < 8; omega)
    obtain ⟨u, hu, rfl⟩ := ints_get hv2
    have hum := List.mem_of_getElem? hu
    have e7 := Ex.new (o := .lst ([1, y, y, y, y, y + (if decide (V.int (c : Int) = V.int 0) = true then 1 else 0), (if y - 1 > 1 then y - 1 else 1), (if y / 2 > 1 then y / 2 else 1)].map V.int)) hz5
    have hur : 1 ≤ u ∧ u ≤ 100000000000000000000000000000 := by
      simp only [List.mem_cons, List.not_mem_nil, or_false] at hum
      rcases hum with h | h | h | h | h | h | h | h <;> rw [h]
      · omega
      · omega
      · omega
      · omega
      · omega
      · split <;> omega
      · split <;> omega
      · split <;> omega
    refine ⟨_, rfl, z, _, way, .int u, rfl, rfl, SqL.of upd_same, hv, F, _, _, rfl, rfl, e7 _ _ hFG2, small1000 (by rw [List.length_map]; omega), _, rfl, ?_⟩
    refine ⟨(box_mut (Bg2.ex e7) Fb).le (by omega), butMut (kg2.trans (But.of e7)) hF, ns ++ [u], l, some (.int (i : Int)), some (.int way), some (.int N), some (.int (l : Int)), some (.int y), by rw [upd_same, List.map_append]; rfl, by rw [List.length_append]; show _ + 1 ≤ _; omega, fun x hx => ?_, ?_, rfl⟩
    · rcases List.mem_append.mp hx with h | h
      · exact hz x h
      · rw [List.mem_singleton] at h; rw [h]; exact hur
    · by_cases h0 : c = 0
      · rw [hl0 h0]; omega
      · have := hl1 (by omega); omega
  · rintro σ H' ⟨B, kb, ns, c, v7, v8, v9, v10, v11, hFF, hl, hz, hc, rfl⟩
    exact ⟨_, rfl, q F ns H' hF hFF ⟨hl, hz⟩ (B.le (by omega)) kb⟩
end
end L2.U


set_option Elab.async false
set_option linter.all false
set_option maxRecDepth 100000
set_option maxHeartbeats 4000000
namespace L2.U
open PySem PySem.Spec PyProof.Rows Evl
section
variable {P : Program} {w : World} {K : PySem.W.Frag} {mg : Str → Option Value} {base : Heap}
def spLFull (K : PySem.W.Frag) : Sp := fun vs H Q _ => ∃ (b p : Addr) (k w j : Nat) (ok : Addr → Prop), vs = [.ref b, .ref p, .int (w : Int)] ∧ BoxAt H b (k + 10) ∧ 1 ≤ w ∧ w ≤ 24 ∧ Rd K ok H j (.ref p) (list2 (rT 25)) ∧ (∀ a, ok a → a ≠ b) ∧
  ∀ q ns H', H q = none → H' q = some (.lst (ns.map V.int)) → GoodN 5 ns → 1 ≤ ns.length → BoxAt H' b k → But b H H' → Q (.ref q) H'
theorem ok_law_full (T : TK K mg) : FnOk P w K mg base CX0 2 T.law_full.a T.law_full.fd ["box", "raised", "wires"] (spLFull K) := by
  refine T.law_full.F.ok sc_law_full (fun vs H Q E h => ?_) (fun cdv A outer s H vs Q E hr h => ?_)
  · obtain ⟨b, p, k, w, j, ok, rfl, _⟩ := h; rfl
  obtain ⟨b, p, k, w, j, ok, rfl, hB, w1, hw, hp, okb, q⟩ := h
  refine ⟨_, (pss_cons (ps_par3 (i := 3) (j := 4) (l := 5) (by rfl) sc_law_full.nd rfl rfl rfl (by decide) (by decide) (by decide) rfl rfl rfl (pa_cons (pe_lst pa_nil) (pa_cons (pv 2) (pa_cons (pe_call (ok_law_take T.toTA1) (hr.mono (by decide)) rfl T.law_take.m T.law_take.F.kp T.law_take.b .nil pass0 (pa_cons (pv 0) (pa_cons pe_int pa_nil))) pa_nil))) (by rfl))
    (pss_cons (ps_for PassesOwn.never rfl (pi_range1 rfl T.z_range (pa_cons (pv 5) pa_nil)) (pg_name (i := 6) sc_law_full.nd rfl (Or.inl rfl)) (pss_cut (ps_set (i := 7) sc_law_full.nd rfl (Or.inl rfl) (pe_ifExp (pt_cmpR op_gt (pv 4) pe_int (nomark _)) (pe_call (ok_law_take T.toTA1) (hr.mono (by decide)) rfl T.law_take.m T.law_take.F.kp T.law_take.b .nil pass0 (pa_cons (pv 0) (pa_cons (pv 4) pa_nil))) pe_int))
    (pss_one (ps_if (pt_cmpR op_gt (pv 7) pe_int (nomark _)) (pss_cons (ps_expr (pe_bm PySem.F.plainAttrs_list PySem.F.slot_list_append PySem.F.type_list_append mt_append (pv 3) (pa_cons (pe_ix (kixl K) (pe_ix (kixl K) (pv 1) (pv 4) (fun _ _ => rfl)) (pv 7) (fun _ _ => rfl)) pa_nil)))
    (pss_one (ps_set (i := 4) sc_law_full.nd rfl (Or.inl rfl) (pv 7)))) pss_nil))))
    (pss_one (ps_ret (pe_op op_cat (pv 3) (pe_lst (pa_cons (pe_ix (kixl K) (pe_ix (kixl K) (pv 1) (pv 4) (fun _ _ => rfl)) pe_int (fun _ _ => rfl)) pa_nil))))))), ?_⟩
  refine ⟨Nat.zero_le _, fun F hF => ⟨_, rfl, _, rfl, b, 5, k + 9, rfl, by decide, by decide, hB.ex (Ex.new hF), fun many H1 m0 m4 B1 k1 => ⟨_, _, _, rfl, ?_⟩⟩⟩
  have Fb : F ≠ b := hB.ne hF
  have kb1 := (But.of (b := b) (Ex.new (o := .lst []) hF)).trans k1
  have hF1 := k1 _ _ Fb (upd_same (H := H) (a := F) (o := .lst []))
  refine ⟨_, rfl, many, rfl, by omega, by omega, for_range (lo := 0) (n := many.toNat) (fun i σ H' => BoxAt H' b (k + (9 - i)) ∧ But b H H' ∧ ∃ (ns : List Int) (c : Nat) (v6 v7 : Option V), H' F = some (.lst (ns.map V.int)) ∧ ns.length ≤ i ∧ (∀ z ∈ ns, 1 ≤ z ∧ z ≤ 100000000000000000000000000000) ∧ 1 ≤ c ∧ c ≤ 24 ∧ σ = [some (.ref b), some (.ref p), some (.int (w : Int)), some (.ref F), some (.int (c : Int)), some (.int many), v6, v7])
    ⟨B1, kb1, [], w, _, _, hF1, Nat.le_refl _, (fun z hz => by cases hz), w1, hw, rfl⟩ ?_ ?_⟩
  · rintro i σ H' hi ⟨B, kb, ns, c, v6, v7, hFF, hl, hz, hc1, hc, rfl⟩
    rw [Int.zero_add]
    refine ⟨fun σ G => BoxAt G b (k + (9 - (i + 1))) ∧ But b H G ∧ G F = some (.lst (ns.map V.int)) ∧ ∃ l : Nat, l < c ∧ σ = [some (.ref b), some (.ref p), some (.int (w : Int)), some (.ref F), some (.int (c : Int)), some (.int many), some (.int (i : Int)), some (.int (l : Int))], ?_, ?_⟩
    · refine ⟨_, rfl, _, _, rfl, rfl, _, rfl, ite2 (fun h => ?_) (fun h => absurd (decide_eq_true (show 0 < (c : Int) by omega)) h)⟩
      exact ⟨_, rfl, _, rfl, b, (c : Int), k + (9 - (i + 1)), rfl, by omega, by omega, B.le (by omega), fun t H4 t0 t1 B4 k4 => ⟨B4, kb.trans k4, k4 _ _ Fb hFF, t.toNat, by omega, by rw [Int.toNat_of_nonneg t0]; rfl⟩⟩
    rintro σ G ⟨Bg, kg, hFG, l, hl1, rfl⟩
    refine ⟨_, rfl, _, _, rfl, rfl, _, rfl, ite2 (fun h => ?_) (fun h => ⟨Bg, kg, ns, c, _, _, hFG, by omega, hz, hc1, hc, rfl⟩)⟩
    have h := of_decide_eq_true h
    obtain ⟨p', vs, hpe, hvs, _, vall⟩ := rd_raised (hp.but kg okb)
    cases hpe
    obtain ⟨b1, hb1, hbs⟩ := vall c hc
    have vi := val_in ⟨c, by omega⟩ ⟨l, by omega⟩ hl1
    simp only at vi
    refine ⟨_, rfl, .inl ⟨rfl, _, SqL.of hFG⟩, _, rfl, _, rfl, p, vs, _, .ref b1, rfl, rfl, SqL.of hvs, atI_nat hb1, _, rfl, b1, _, _, .int (vR c l), rfl, rfl, SqL.of hbs, atI_nat (rowR_at (by omega)), F, _, _, rfl, rfl, hFG, small1000 (by rw [List.length_map]; omega), _, rfl, ?_⟩
    refine ⟨box_mut Bg Fb, butMut kg hF, ns ++ [vR c l], l, _, _, by rw [upd_same, List.map_append]; rfl, by rw [List.length_append]; show _ + 1 ≤ _; omega, fun x hx => ?_, by omega, by omega, rfl⟩
    rcases List.mem_append.mp hx with h | h
    · exact hz x h
    · rw [List.mem_singleton] at h; omega
  · rintro σ H' ⟨B, kb, ns, c, v6, v7, hFF, hl, hz, hc1, hc, rfl⟩
    obtain ⟨p', vs, hpe, hvs, _, vall⟩ := rd_raised (hp.but kb okb)
    cases hpe
    obtain ⟨b1, hb1, hbs⟩ := vall c hc
    have vi := val_in ⟨c, by omega⟩ ⟨0, by omega⟩ (by show 0 < c; omega)
    simp only at vi
    refine ⟨_, rfl, _, rfl, _, rfl, p, vs, _, .ref b1, rfl, rfl, SqL.of hvs, atI_nat hb1, b1, _, 0, .int (vR c 0), rfl, rfl, SqL.of hbs, at_of (show (0 : Int) = ((0 : Nat) : Int) from rfl) (rowR_at (Nat.zero_le _)), one_le, fun s hs => ?_⟩
    have es := Ex.new (o := .lst [.int (vR c 0)]) hs
    refine ⟨F, s, _, _, rfl, rfl, es _ _ hFF, upd_same, Nat.le_of_lt (small1000 (by rw [List.length_map]; show _ + 1 ≤ 1000; omega)), fun u hu => ?_⟩
    have eu := Ex.new (o := .lst (ns.map V.int ++ [.int (vR c 0)])) hu
    exact q u (ns ++ [vR c 0]) _ (but_fresh kb hB B (fresh_back es hu)) (by rw [upd_same, List.map_append]; rfl) ⟨by rw [List.length_append]; show _ + 1 ≤ 5; omega, fun x hx => by
      rcases List.mem_append.mp hx with h | h
      · exact hz x h
      · rw [List.mem_singleton] at h; omega⟩ (by rw [List.length_append]; show 1 ≤ _ + 1; omega) (((B.ex es).ex eu).le (by omega)) ((kb.trans (But.of es)).trans (But.of eu))
section
variable {X : Cx}
def tLstRg3 (ta : TA) : TE := fun σ H Q => ta σ H fun vs H1 => ∃ (i j c : Int) (n : Nat), vs = [.int i, .int j, .int c] ∧ RgC i j c n ∧ n ≤ 1000 ∧ ∀ q, H1 q = none → Q (.ref q) (upd H1 q (.lst ((List.range n).map fun m : Nat => V.int (i + (m : Int) * c))))
theorem pe_listRg3 {a b c : Expr} {ta : TA} {p pos p2 pos2 : Pos} (hc : X.calm = true) (hgl : Gl X "list") (hml : X.mg "list" = none) (hg : Gl X "range") (hm : X.mg "range" = none) (ha : PA X [a, b, c] ta)
    (hs : starEach [a, b, c] X.env = (false, eval a X.env) :: starEach [b, c] X.env := by rfl) (hpl : (backTo pos2 (starEach [b, c] X.env)).any (·.1) = false := by rfl)
    (na : starEach [.Call (.Name "range" p2) [a, b, c] [] pos2] X.env = (false, eval (.Call (.Name "range" p2) [a, b, c] [] pos2) X.env) :: starEach [] X.env := by rfl) :
    PE X (.Call (.Name "list" p) [.Call (.Name "range" p2) [a, b, c] [] pos2] [] pos) (tLstRg3 ta) := by
  refine ⟨fun pins s σ H Q I h => ?_⟩
  have inner : wpAny (model X.prog X.w) X.A (eval (.Call (.Name "range" p2) [a, b, c] [] pos2) X.env) (fun x s' => ∃ (r : Addr) (i j k : Int) (n : Nat) (t u v : Tok) (H' : Hp), x = .ref r ∧ IsRange s'.heap r i j k t u v ∧ RgC i j k n ∧ n ≤ 1000 ∧ Inv X pins σ H' s' ∧ ∀ q, H' q = none → Q (.ref q) (upd H' q (.lst ((List.range n).map fun m : Nat => V.int (i + (m : Int) * k))))) X.xe s := by
    refine Call_ (ld_blt I hg hm boot_range (PyProof.Rows.callWith_type1 (thn (ha.run pos2 pins s σ H _ I h) fun us s1 ⟨vs, H1, I1, r1, q1⟩ => ?_) hs hpl))
    obtain ⟨i, j, k, n, e, hr, hn, q⟩ := q1
    subst e
    cases r1 with
    | cons r rr =>
      cases rr with
      | cons r' rr =>
        cases rr with
        | cons r'' rr =>
          cases rr
          obtain ⟨t, rfl⟩ := r
          obtain ⟨t', rfl⟩ := r'
          obtain ⟨t'', rfl⟩ := r''
          exact call_range_3 hr.1 ⟨_, i, j, k, n, _, _, _, H1, rfl, IsRange.new .., hr, hn, I1.kept (t' := s1.toks) fun b o e => Heap.get?_push_of_some _ e, q⟩ (.inl (PyProof.noPylong_small hr.2.1))
  refine Call_ (ld_blt I hgl hml boot_list (PyProof.Rows.callWith_type1 (args_cons (thn inner fun x s1 ⟨r, i, j, k, n, t, u, v, H1, ex, hr, hrg, hn, I1, q⟩ => args_nil ?_) na) na))
  subst ex
  obtain ⟨c0, c1, c2, c3⟩ := hrg
  refine call_list_range (n := n) (I1.ok.hd hc) hr c2 c3 (by omega) fun h' tk acc c' hk e' hi => ?_
  have hv : Vals ((List.range n).map fun m : Nat => V.int (i + (m : Int) * k)) acc.toList := by
    have e : acc.toList.length = n := by rw [Array.length_toList]; exact hi.1
    rw [← e]
    refine vals_of_get acc.toList _ fun j' u hj => ?_
    exact hi.2 j' u (by rw [← hj, Array.getElem?_toList])
  refine ⟨.ref s1.heap.objs.size, upd H1 s1.heap.objs.size (.lst ((List.range n).map fun m : Nat => V.int (i + (m : Int) * k))), I1.laid hk (Nat.le_refl _) (show ObjOk X.prog X.w _ _ _ (.lst _) from ⟨?_, acc.toList, c', hv, ?_⟩), rfl, q _ (I1.hok.fresh (Nat.le_refl _))⟩
  · rw [List.length_map, List.length_range, sizeLine_eq]; omega
  · rw [Array.toArray_toList]; exact e'
end
end
end L2.U


set_option Elab.async false
set_option linter.all false
set_option maxRecDepth 100000
set_option maxHeartbeats 4000000
namespace L2.U
open PySem PySem.Spec PyProof.Rows Evl
section
variable {P : Program} {w : World} {K : PySem.W.Frag} {mg : Str → Option Value} {base : Heap}
abbrev Ent := List Int × Int × Bool
def MenuAt (ok : Addr → Prop) (H : Hp) (x : V) (e : Ent) : Prop := ∃ t r, x = .ref t ∧ H t = some (.tup [.ref r, .int e.2.1, .bl e.2.2]) ∧ H r = some (.lst (e.1.map V.int)) ∧ ok r
def MenuL (ok : Addr → Prop) (H : Hp) (xs : List V) (es : List Ent) : Prop := xs.length = es.length ∧ ∀ (i : Nat) (x : V) (e : Ent), xs[i]? = some x → es[i]? = some e → MenuAt ok H x e
theorem MenuL.ex {ok : Addr → Prop} {H H' : Hp} {xs : List V} {es : List Ent} (m : MenuL ok H xs es) (e : Ex H H') : MenuL ok H' xs es := ⟨m.1, fun i x e' hx he => by
  obtain ⟨t, r, h1, h2, h3, h4⟩ := m.2 i x e' hx he
  exact ⟨t, r, h1, e _ _ h2, e _ _ h3, h4⟩⟩
theorem MenuL.of {ok ok' : Addr → Prop} {H : Hp} {xs : List V} {es : List Ent} (m : MenuL ok H xs es) (w : ∀ a, (∃ o, H a = some o) → ok a → ok' a) : MenuL ok' H xs es := ⟨m.1, fun i x e' hx he => by
  obtain ⟨t, r, h1, h2, h3, h4⟩ := m.2 i x e' hx he
  exact ⟨t, r, h1, h2, h3, w _ ⟨_, h3⟩ h4⟩⟩
theorem MenuL.put {H : Hp} {p : Addr} {xs zs ys : List V} {es : List Ent} (m : MenuL (fun a => a ≠ p) H xs es) (hp : H p = some (.lst zs)) : MenuL (fun a => a ≠ p) (upd H p (.lst ys)) xs es := ⟨m.1, fun i x e' hx he => by
  obtain ⟨t, r, h1, h2, h3, h4⟩ := m.2 i x e' hx he
  refine ⟨t, r, h1, ?_, by rw [upd_ne h4]; exact h3, h4⟩
  rw [upd_ne (by rintro rfl; rw [h2] at hp; cases hp)]
  exact h2⟩
theorem MenuL.app {ok : Addr → Prop} {H : Hp} {xs ys : List V} {es fs : List Ent} (h1 : MenuL ok H xs es) (h2 : MenuL ok H ys fs) : MenuL ok H (xs ++ ys) (es ++ fs) := by
  refine ⟨by rw [List.length_append, List.length_append, h1.1, h2.1], fun i x d hx hd => ?_⟩
  by_cases c : i < xs.length
  · rw [List.getElem?_append_left c] at hx
    rw [List.getElem?_append_left (by rw [← h1.1]; exact c)] at hd
    exact h1.2 i x d hx hd
  · rw [List.getElem?_append_right (by omega)] at hx
    rw [List.getElem?_append_right (by rw [← h1.1]; omega), ← h1.1] at hd
    exact h2.2 _ x d hx hd
def RunM (ta : TA) (es : List Ent) : Prop := ∀ (σ : L2.St) (G : Hp) (Q : List V → Hp → Prop), (∀ xs G', Ex G G' → MenuL (fun a => G a = none) G' xs es → Q xs G') → ta σ G Q
theorem rm_nil : RunM tNil [] := fun σ G Q k => k [] G (Ex.refl _) ⟨rfl, fun i x e hx _ => by cases hx⟩
theorem rm_cons {te : TE} {ta : TA} {ns : List Int} {i : Int} {d : Bool} {es : List Ent} (h : ∀ σ H, EvL te σ H (ns.map V.int)) (r : RunM ta es) : RunM (tCons (tTup (tCons te (tCons (tC (.int i)) (tCons (tC (.bl d)) tNil)))) ta) ((ns, i, d) :: es) :=
  fun σ G Q k => h σ G G (Ex.refl _) _ fun p H2 hp e2 h2 => ⟨three_le, fun t ht => r σ _ _ fun xs G' e' m => by
    have et := Ex.new (o := .tup [.ref p, .int i, .bl d]) ht
    have all := (e2.trans et)
    refine k (.ref t :: xs) G' (all.trans e') ⟨congrArg (· + 1) m.1, fun i' x e hx he => ?_⟩
    cases i' with
    | zero => cases hx; cases he; exact ⟨t, p, rfl, e' _ _ upd_same, e' _ _ (et _ _ h2), hp⟩
    | succ i' =>
      obtain ⟨t', r', h1, h2', h3, h4⟩ := m.2 i' x e hx he
      exact ⟨t', r', h1, h2', h3, fresh_back all h4⟩⟩
theorem menu_new {ta : TA} {es : List Ent} {i : Nat} {rest : TS} {D : Ends} {σ : L2.St} {H : Hp} (r : RunM ta es) (hz : es.length ≤ 100) (q : ∀ p xs H', H p = none → Ex H H' → H' p = some (.lst xs) → MenuL (fun a => a ≠ p) H' xs es → rest D (σ.set i (some (.ref p))) H') : tSeq (tAsg (tLst ta) (gName i)) rest D σ H :=
  r σ H _ fun xs G' e m => ⟨Nat.le_of_lt (small1000 (by rw [m.1]; omega)), fun p hp => q p xs _ (fresh_back e hp) (e.trans (Ex.new hp)) upd_same ((m.of fun a ⟨o, ho⟩ _ => (by rintro rfl; rw [hp] at ho; cases ho)).ex (Ex.new hp))⟩
theorem menu_ext {ta : TA} {es es0 : List Ent} {i : Nat} {rest : TS} {D : Ends} {σ : L2.St} {H H0 : Hp} {p : Addr} {xs : List V} (hi : σ[i]? = some (some (.ref p))) (p0 : H0 p = none) (e0 : Ex H0 H) (hp : H p = some (.lst xs)) (m : MenuL (fun a => a ≠ p) H xs es0) (r : RunM ta es) (hz : es0.length + es.length ≤ 100)
    (q : ∀ xs' H', Ex H0 H' → H' p = some (.lst xs') → MenuL (fun a => a ≠ p) H' xs' (es0 ++ es) → rest D σ H') : tSeq (tDrop (tBM K "list" rExtend (tVar i) (tCons (tLst ta) tNil))) rest D σ H :=
  ⟨_, hi, .inl ⟨rfl, _, SqL.of hp⟩, r σ H _ fun xs' G' e m' => ⟨Nat.le_of_lt (small1000 (by rw [m'.1]; omega)), fun l hl => ⟨p, l, xs, xs', rfl, rfl, (Ex.new hl) _ _ (e _ _ hp), upd_same, Nat.le_of_lt (small1000 (by rw [m.1, m'.1]; omega)),
    q (xs ++ xs') _ (((e0.trans e).trans (Ex.new hl)).mut p0) upd_same ((((m.ex e).ex (Ex.new hl)).app ((m'.of fun a _ ha => (by rintro rfl; rw [hp] at ha; cases ha)).ex (Ex.new hl))).put ((Ex.new hl) _ _ (e _ _ hp)))⟩⟩⟩
theorem l0 : ∀ (σ : L2.St) (H : Hp), EvL (tLst tNil) σ H (([] : List Int).map V.int) := fun σ H => el_lst ea_nil (by decide)
theorem l1 {a : Int} : ∀ (σ : L2.St) (H : Hp), EvL (tLst (tCons (tC (.int a)) tNil)) σ H ([a].map V.int) := fun σ H => el_lst (ea_cons ev_c ea_nil) (by show 1 ≤ 100000; decide)
theorem l2 {a b : Int} : ∀ (σ : L2.St) (H : Hp), EvL (tLst (tCons (tC (.int a)) (tCons (tC (.int b)) tNil))) σ H ([a, b].map V.int) := fun σ H => el_lst (ea_cons ev_c (ea_cons ev_c ea_nil)) (by show 2 ≤ 100000; decide)
theorem l3 {a b c : Int} : ∀ (σ : L2.St) (H : Hp), EvL (tLst (tCons (tC (.int a)) (tCons (tC (.int b)) (tCons (tC (.int c)) tNil)))) σ H ([a, b, c].map V.int) := fun σ H => el_lst (ea_cons ev_c (ea_cons ev_c (ea_cons ev_c ea_nil))) (by show 3 ≤ 100000; decide)
theorem lr : ∀ (σ : L2.St) (H : Hp), EvL (tOp rRep (tLst (tCons (tC (.int 1)) tNil)) (tC (.int 16))) σ H ((List.replicate 16 (1 : Int)).map V.int) := fun σ H => by
  have := el_repL (n := 16) (l1 (a := 1) σ H) (fun H1 _ => ev_c (v := .int 16)) (by decide) (by decide) (by decide)
  exact this
theorem l4 {a b c d : Int} : ∀ (σ : L2.St) (H : Hp), EvL (tLst (tCons (tC (.int a)) (tCons (tC (.int b)) (tCons (tC (.int c)) (tCons (tC (.int d)) tNil))))) σ H ([a, b, c, d].map V.int) := fun σ H => el_lst (ea_cons ev_c (ea_cons ev_c (ea_cons ev_c (ea_cons ev_c ea_nil)))) (by show 4 ≤ 100000; decide)
theorem l5 {a b c d e : Int} : ∀ (σ : L2.St) (H : Hp), EvL (tLst (tCons (tC (.int a)) (tCons (tC (.int b)) (tCons (tC (.int c)) (tCons (tC (.int d)) (tCons (tC (.int e)) tNil)))))) σ H ([a, b, c, d, e].map V.int) := fun σ H => el_lst (ea_cons ev_c (ea_cons ev_c (ea_cons ev_c (ea_cons ev_c (ea_cons ev_c ea_nil))))) (by show 5 ≤ 100000; decide)
def down16 : List Int := [16, 15, 14, 13, 12, 11, 10, 9, 8, 7, 6, 5, 4, 3, 2, 1]
theorem ld : ∀ (σ : L2.St) (H : Hp), EvL (tLstRg3 (tCons (tC (.int 16)) (tCons (tC (.int 0)) (tCons (tUn (rU fun i => V.int (-i)) (tC (V.int 1))) tNil)))) σ H (down16.map V.int) := fun σ H H0 e Q q =>
  ⟨_, rfl, 16, 0, -1, 16, rfl, by
    have := RgC.neg (i := 16) (j := 0) (by decide) (by decide) (by decide) (by decide)
    exact this, by decide, fun p hp => q p _ hp (Ex.new hp) (by rw [upd_same]; exact congrArg (fun l => some (HO.lst l)) (by decide +kernel))⟩
def menu0 : List Ent := [([3, 2, 1], 3, true), ([3, 3], 3, false), ([], 0, true), ([8], 4, true), ([9], 4, false), ([2, 6, 5], 7, true)]
def menu1 : List Ent := [([2, 6, 5], 6, false), ([2, 2, 5], 6, true), ([2, 2, 5], 5, false), (List.replicate 16 1, 16, true), ([1], 0, false)]
def menu2 : List Ent := [(List.replicate 16 1, 15, false), ([168], 7, true), ([169], 7, false), ([560], 8, true), ([561], 8, false), ([2], 2, true)]
def menu3 : List Ent := [([3], 2, false), (down16, 16, true), (down16, 15, false), ([20, 2], 5, false)]
def menu4 : List Ent := [([5, 4, 3, 2, 1], 5, true), ([5, 4, 3, 3], 5, false), ([48], 6, true), ([49], 6, false), ([6, 1], 4, true)]
def menuA : List Ent := menu0 ++ menu1 ++ menu2 ++ menu3 ++ menu4
theorem menu_ok : ∀ e ∈ menuA, e.1.length ≤ 16 ∧ (∀ z ∈ e.1, 1 ≤ z ∧ z ≤ 100000000000000000000000000000000000000000000000000) ∧ 0 ≤ e.2.1 ∧ e.2.1 ≤ 24 ∧ canG e.1 e.2.1.toNat = e.2.2 := by decide +kernel
def spFixed : Sp := fun vs H Q _ => ∃ pick : Int, vs = [.int pick] ∧ 0 ≤ pick ∧ pick < 26 ∧ ∀ H', Ex H H' → Q (.bl true) H'
theorem ok_law_fixed_right (T : TK K mg) : FnOk P w K mg base CX0 11 T.law_fixed_right.a T.law_fixed_right.fd ["pick"] spFixed := by
  refine T.law_fixed_right.F.ok sc_law_fixed_right (fun vs H Q E h => ?_) (fun cdv A outer s H vs Q E hr h => ?_)
  · obtain ⟨pick, rfl, _⟩ := h; rfl
  obtain ⟨pick, rfl, p0, p1, q⟩ := h
  refine ⟨_, (pss_cons (ps_set (i := 1) sc_law_fixed_right.nd rfl (Or.inl rfl) (pe_lst (pa_cons (pe_tup (pa_cons (pe_lst (pa_cons pe_int (pa_cons pe_int (pa_cons pe_int pa_nil)))) (pa_cons pe_int (pa_cons pe_bl pa_nil)))) (pa_cons (pe_tup (pa_cons (pe_lst (pa_cons pe_int (pa_cons pe_int pa_nil))) (pa_cons pe_int (pa_cons pe_bl pa_nil)))) (pa_cons (pe_tup (pa_cons (pe_lst pa_nil) (pa_cons pe_int (pa_cons pe_bl pa_nil)))) (pa_cons (pe_tup (pa_cons (pe_lst (pa_cons pe_int pa_nil)) (pa_cons pe_int (pa_cons pe_bl pa_nil)))) (pa_cons (pe_tup (pa_cons (pe_lst (pa_cons pe_int pa_nil)) (pa_cons pe_int (pa_cons pe_bl pa_nil)))) (pa_cons (pe_tup (pa_cons (pe_lst (pa_cons pe_int (pa_cons pe_int (pa_cons pe_int pa_nil)))) (pa_cons pe_int (pa_cons pe_bl pa_nil)))) pa_nil))))))))
    (pss_cons (ps_expr (pe_bm PySem.F.plainAttrs_list PySem.F.slot_list_extend PySem.F.type_list_extend mt_extend (pv 1) (pa_cons (pe_lst (pa_cons (pe_tup (pa_cons (pe_lst (pa_cons pe_int (pa_cons pe_int (pa_cons pe_int pa_nil)))) (pa_cons pe_int (pa_cons pe_bl pa_nil)))) (pa_cons (pe_tup (pa_cons (pe_lst (pa_cons pe_int (pa_cons pe_int (pa_cons pe_int pa_nil)))) (pa_cons pe_int (pa_cons pe_bl pa_nil)))) (pa_cons (pe_tup (pa_cons (pe_lst (pa_cons pe_int (pa_cons pe_int (pa_cons pe_int pa_nil)))) (pa_cons pe_int (pa_cons pe_bl pa_nil)))) (pa_cons (pe_tup (pa_cons (pe_op op_rep (pe_lst (pa_cons pe_int pa_nil)) pe_int) (pa_cons pe_int (pa_cons pe_bl pa_nil)))) (pa_cons (pe_tup (pa_cons (pe_lst (pa_cons pe_int pa_nil)) (pa_cons pe_int (pa_cons pe_bl pa_nil)))) pa_nil)))))) pa_nil)))
    (pss_cons (ps_expr (pe_bm PySem.F.plainAttrs_list PySem.F.slot_list_extend PySem.F.type_list_extend mt_extend (pv 1) (pa_cons (pe_lst (pa_cons (pe_tup (pa_cons (pe_op op_rep (pe_lst (pa_cons pe_int pa_nil)) pe_int) (pa_cons pe_int (pa_cons pe_bl pa_nil)))) (pa_cons (pe_tup (pa_cons (pe_lst (pa_cons pe_int pa_nil)) (pa_cons pe_int (pa_cons pe_bl pa_nil)))) (pa_cons (pe_tup (pa_cons (pe_lst (pa_cons pe_int pa_nil)) (pa_cons pe_int (pa_cons pe_bl pa_nil)))) (pa_cons (pe_tup (pa_cons (pe_lst (pa_cons pe_int pa_nil)) (pa_cons pe_int (pa_cons pe_bl pa_nil)))) (pa_cons (pe_tup (pa_cons (pe_lst (pa_cons pe_int pa_nil)) (pa_cons pe_int (pa_cons pe_bl pa_nil)))) (pa_cons (pe_tup (pa_cons (pe_lst (pa_cons pe_int pa_nil)) (pa_cons pe_int (pa_cons pe_bl pa_nil)))) pa_nil))))))) pa_nil)))
    (pss_cons (ps_expr (pe_bm PySem.F.plainAttrs_list PySem.F.slot_list_extend PySem.F.type_list_extend mt_extend (pv 1) (pa_cons (pe_lst (pa_cons (pe_tup (pa_cons (pe_lst (pa_cons pe_int pa_nil)) (pa_cons pe_int (pa_cons pe_bl pa_nil)))) (pa_cons (pe_tup (pa_cons (by exact (pe_listRg3 (by rfl) (by rfl) T.z_list (by rfl) T.z_range (pa_cons pe_int (pa_cons pe_int (pa_cons (pe_un un_neg pe_int) pa_nil))))) (pa_cons pe_int (pa_cons pe_bl pa_nil)))) (pa_cons (pe_tup (pa_cons (by exact (pe_listRg3 (by rfl) (by rfl) T.z_list (by rfl) T.z_range (pa_cons pe_int (pa_cons pe_int (pa_cons (pe_un un_neg pe_int) pa_nil))))) (pa_cons pe_int (pa_cons pe_bl pa_nil)))) (pa_cons (pe_tup (pa_cons (pe_lst (pa_cons pe_int (pa_cons pe_int pa_nil))) (pa_cons pe_int (pa_cons pe_bl pa_nil)))) pa_nil))))) pa_nil)))
    (pss_cons (ps_expr (pe_bm PySem.F.plainAttrs_list PySem.F.slot_list_extend PySem.F.type_list_extend mt_extend (pv 1) (pa_cons (pe_lst (pa_cons (pe_tup (pa_cons (pe_lst (pa_cons pe_int (pa_cons pe_int (pa_cons pe_int (pa_cons pe_int (pa_cons pe_int pa_nil)))))) (pa_cons pe_int (pa_cons pe_bl pa_nil)))) (pa_cons (pe_tup (pa_cons (pe_lst (pa_cons pe_int (pa_cons pe_int (pa_cons pe_int (pa_cons pe_int pa_nil))))) (pa_cons pe_int (pa_cons pe_bl pa_nil)))) (pa_cons (pe_tup (pa_cons (pe_lst (pa_cons pe_int pa_nil)) (pa_cons pe_int (pa_cons pe_bl pa_nil)))) (pa_cons (pe_tup (pa_cons (pe_lst (pa_cons pe_int pa_nil)) (pa_cons pe_int (pa_cons pe_bl pa_nil)))) (pa_cons (pe_tup (pa_cons (pe_lst (pa_cons pe_int (pa_cons pe_int pa_nil))) (pa_cons pe_int (pa_cons pe_bl pa_nil)))) pa_nil)))))) pa_nil)))
    (pss_cons (ps_for PassesOwn.never rfl (kpil K (pe_lst (pa_cons (pe_ix (kixl K) (pv 1) (pv 0) (fun _ _ => rfl)) (pa_cons (pe_ix (kixl K) (pv 1) (pe_op op_sub (pe_op op_sub (pe_callB (klen K) (by rfl) T.z_len (by decide +kernel) (pa_cons (pv 1) pa_nil)) pe_int) (pv 0)) (fun _ _ => rfl)) pa_nil)))) (pg_tup (by rfl) (pgs_cons (pg_name (i := 2) sc_law_fixed_right.nd rfl (Or.inl rfl)) (pgs_cons (pg_name (i := 3) sc_law_fixed_right.nd rfl (Or.inl rfl)) (pgs_cons (pg_name (i := 4) sc_law_fixed_right.nd rfl (Or.inl rfl)) pgs_nil)))) (pss_one (ps_if (pt_not (pt_val (pe_call (ok_law_same T.toTA1) (hr.mono (by decide)) rfl T.law_same.m T.law_same.F.kp T.law_same.b .nil pass0 (pa_cons (pe_call (ok_law_told T) (hr.mono (by decide)) rfl T.law_told.m T.law_told.F.kp T.law_told.b .nil pass0 (pa_cons (pv 2) (pa_cons (pv 3) (pa_cons (pe_op op_mod (pe_callTy call_int1 (by rfl) T.z_int (by decide +kernel) (pa_cons (pv 0) pa_nil)) pe_int) pa_nil)))) (pa_cons (pv 4) pa_nil))))) (pss_one (ps_ret pe_bl)) pss_nil)))
    (pss_one (ps_ret pe_bl)))))))), ?_⟩
  refine menu_new (i := 1) (es := menu0) (rm_cons l3 (rm_cons l2 (rm_cons l0 (rm_cons l1 (rm_cons l1 (rm_cons l3 rm_nil)))))) (by decide) fun p xs0 H1 pn e1 h1 m1 => ?_
  refine menu_ext (K := K) (es := menu1) rfl pn e1 h1 m1 (rm_cons l3 (rm_cons l3 (rm_cons l3 (rm_cons lr (rm_cons l1 rm_nil))))) (by decide) fun xs1 H2 e2 h2 m2 => ?_
  refine menu_ext (K := K) (es := menu2) rfl pn e2 h2 m2 (rm_cons lr (rm_cons l1 (rm_cons l1 (rm_cons l1 (rm_cons l1 (rm_cons l1 rm_nil)))))) (by decide) fun xs2 H3 e3 h3 m3 => ?_
  refine menu_ext (K := K) (es := menu3) rfl pn e3 h3 m3 (rm_cons l1 (rm_cons ld (rm_cons ld (rm_cons l2 rm_nil)))) (by decide) fun xs3 H4 e4 h4 m4 => ?_
  refine menu_ext (K := K) (es := menu4) rfl pn e4 h4 m4 (rm_cons l5 (rm_cons l4 (rm_cons l1 (rm_cons l1 (rm_cons l2 rm_nil))))) (by decide) fun xs H6 e6 h6 m6 => ?_
  have m : MenuL (fun a => a ≠ p) H6 xs menuA := m6
  have xl : xs.length = 26 := m.1
  obtain ⟨v1, hv1, hg1⟩ := at_get (xs := xs) p0 (by rw [xl]; exact p1)
  obtain ⟨v2, hv2, hg2⟩ := at_get (xs := xs) (show 0 ≤ (26 : Int) - 1 - pick by omega) (by rw [xl]; show 26 - 1 - pick < 26; omega)
  have ent : ∀ (k : Nat) v, xs[k]? = some v → ∃ e ∈ menuA, MenuAt (fun a => a ≠ p) H6 v e := fun k v hv => by
    have hk := (List.getElem?_eq_some_iff.mp hv).1
    obtain ⟨e, he⟩ : ∃ e, menuA[k]? = some e := ⟨_, List.getElem?_eq_getElem (by rw [← m.1]; exact hk)⟩
    exact ⟨e, List.mem_of_getElem? he, m.2 k v e hv he⟩
  have a1 := ent _ v1 hg1
  have a2 := ent _ v2 hg2
  refine ⟨_, rfl, _, rfl, p, xs, pick, v1, rfl, rfl, SqL.of h6, hv1, _, rfl, _, rfl, _, 26, rfl, .inl ⟨xs, SqL.of h6, xl.symm⟩, _, _, rfl, rfl, _, rfl, _, _, rfl, rfl, p, xs, _, v2, rfl, rfl, SqL.of h6, hv2, two_le, fun L hL => ?_⟩
  have e7 := Ex.new (o := .lst [v1, v2]) hL
  have hL7 := upd_same (H := H6) (a := L) (o := .lst [v1, v2])
  generalize upd H6 L (.lst [v1, v2]) = H7 at e7 hL7 ⊢
  refine ⟨L, rfl, ⟨_, SqL.of hL7⟩, for_list (xs := [v1, v2]) (fun j σ H' => Ex H7 H' ∧ ∃ v2 v3 v4 : Option V, σ = [some (.int pick), some (.ref p), v2, v3, v4]) ⟨Ex.refl _, _, _, _, rfl⟩ (fun j σ H' _ p => SqL.of (p.1 _ _ hL7)) ?_ ?_⟩
  · rintro j v σ H8 hj ⟨e8, w2, w3, w4, rfl⟩
    have hj2 : j < 2 := (List.getElem?_eq_some_iff.mp hj).1
    obtain ⟨en, hen, t, r, rfl, ht, hr, _⟩ : ∃ e ∈ menuA, MenuAt (fun a => a ≠ p) H6 v e := by
      match j, hj2, hj with
      | 0, _, hj => cases hj; exact a1
      | 1, _, hj => cases hj; exact a2
    obtain ⟨o1, o2, o3, o4, o7⟩ := menu_ok en hen
    have e68 := e7.trans e8
    refine ⟨t, _, rfl, SqT.of (e68 _ _ ht), rfl, _, _, rfl, _, _, rfl, _, _, rfl, rfl, ?_⟩
    refine ⟨_, rfl, _, rfl, _, rfl, .inl ⟨_, rfl, _, _, rfl, rfl, (by show (0 : Int) < 3; decide), r, en.1, en.2.1.toNat, _, (by rw [Int.toNat_of_nonneg o3]; rfl), e68 _ _ hr, ⟨o1, o2⟩, by omega, fun H9 e9 => ?_⟩⟩
    rw [← canG_canT en.1 _ (by omega), o7]
    exact ⟨_, rfl, _, _, rfl, .bl _, fun H10 e10 => ⟨_, rfl, iteF ⟨(e8.trans e9).trans e10, _, _, _, rfl⟩⟩⟩
  · rintro σ H8 ⟨e8, w2, w3, w4, rfl⟩
    exact q H8 ((e6.trans e7).trans e8)
def spSmallR (K : PySem.W.Frag) : Sp := fun vs H Q _ => ∃ (b a : Addr) (k : Nat) (ns : List Int), vs = [.ref b, .ref a] ∧ BoxAt H b (k + 10) ∧ H a = some (.lst (ns.map V.int)) ∧ a ≠ b ∧ GoodR ns ∧ ns.length ≤ 3 ∧ ∀ H', BoxAt H' b k → But b H H' → Q (.bl true) H'
theorem ok_law_small_right (T : TK K mg) : FnOk P w K mg base CX0 11 T.law_small_right.a T.law_small_right.fd ["box", "row"] (spSmallR K) := by
  refine T.law_small_right.F.ok sc_law_small_right (fun vs H Q E h => ?_) (fun cdv A outer s H vs Q E hr h => ?_)
  · obtain ⟨b, a, k, ns, rfl, _⟩ := h; rfl
  obtain ⟨b, a, k, ns, rfl, hB, ha, ab, g, l3, q⟩ := h
  refine ⟨_, (pss_cons (ps_for PassesOwn.never rfl (pi_range1 rfl T.z_range (pa_cons pe_int pa_nil)) (pg_name (i := 2) sc_law_small_right.nd rfl (Or.inl rfl)) (pss_cons (ps_par (i := 3) (j := 4) (by rfl) sc_law_small_right.nd rfl rfl (by decide) rfl rfl (pa_cons (pe_call (ok_law_take T.toTA1) (hr.mono (by decide)) rfl T.law_take.m T.law_take.F.kp T.law_take.b .nil pass0 (pa_cons (pv 0) (pa_cons pe_int pa_nil))) (pa_cons (pe_call (ok_law_take T.toTA1) (hr.mono (by decide)) rfl T.law_take.m T.law_take.F.kp T.law_take.b .nil pass0 (pa_cons (pv 0) (pa_cons pe_int pa_nil))) pa_nil)) (by rfl))
    (pss_one (ps_if (pt_not (pt_val (pe_call (ok_law_same T.toTA1) (hr.mono (by decide)) rfl T.law_same.m T.law_same.F.kp T.law_same.b .nil pass0 (pa_cons (pe_call (ok_law_told T) (hr.mono (by decide)) rfl T.law_told.m T.law_told.F.kp T.law_told.b .nil pass0 (pa_cons (pv 1) (pa_cons (pv 3) (pa_cons (pv 4) pa_nil)))) (pa_cons (pe_call (ok_law_listed T) (hr.mono (by decide)) rfl T.law_listed.m T.law_listed.F.kp T.law_listed.b .nil pass0 (pa_cons (pv 1) (pa_cons (pv 3) pa_nil))) pa_nil))))) (pss_one (ps_ret pe_bl)) pss_nil))))
    (pss_one (ps_ret pe_bl))), ?_⟩
  refine ⟨5, rfl, by decide, by decide, for_range (lo := 0) (n := 5) (fun i σ H' => BoxAt H' b (k + 2 * (5 - i)) ∧ But b H H' ∧ ∃ v2 v3 v4 : Option V, σ = [some (.ref b), some (.ref a), v2, v3, v4]) ⟨hB, But.of (Ex.refl _), _, _, _, rfl⟩ ?_ ?_⟩
  · rintro i σ H' hi ⟨B, kb, v2, v3, v4, rfl⟩
    refine ⟨_, rfl, b, 7, k + 2 * (5 - i) - 1, rfl, by decide, by decide, B.le (by omega), fun n H1 n0 n1 B1 k1 => ?_⟩
    refine ⟨_, rfl, b, 3, k + 2 * (5 - i) - 2, rfl, by decide, by decide, B1.le (by omega), fun nm H2 _ _ B2 k2 => ⟨_, _, rfl, ?_⟩⟩
    have kb2 := (kb.trans k1).trans k2
    have ha2 := kb2 _ _ ab ha
    obtain ⟨N, rfl⟩ : ∃ N : Nat, n = (N : Int) := ⟨n.toNat, by omega⟩
    refine ⟨_, rfl, _, rfl, _, rfl, a, ns, N, nm, rfl, ha2, g, by omega, fun H4 e4 => ?_⟩
    refine ⟨_, rfl, _, rfl, a, ns, N, rfl, e4 _ _ ha2, by omega, by omega, by omega, fun H5 e5 => ?_⟩
    exact ⟨_, _, rfl, .bl _, fun H6 e6 => ⟨_, rfl, iteF ⟨(((B2.ex e4).ex e5).ex e6).le (by omega), (((kb2).trans (But.of e4)).trans (But.of e5)).trans (But.of e6), _, _, _, rfl⟩⟩⟩
  · rintro σ H' ⟨B, kb, v2, v3, v4, rfl⟩
    exact q H' (B.le (by omega)) kb
end
end L2.U


set_option Elab.async false
set_option linter.all false
set_option maxRecDepth 100000
set_option maxHeartbeats 4000000
namespace L2.U
open PySem PySem.Spec PyProof.Rows Evl
section
variable {P : Program} {w : World} {K : PySem.W.Frag} {mg : Str → Option Value} {base : Heap}
def optD : Option Int → PyData
  | none => .none
  | some i => .int i
theorem rd_opts {ok : Addr → Prop} {H : Hp} {a : Addr} {os : List (Option Int)} (h : H a = some (.lst (os.map optV))) (o : ok a) (l : os.length ≤ 900) : Rd K ok H 1 (.ref a) (.list (os.map optD)) := by
  refine .lst h o (by rw [List.length_map, List.length_map]) (by rw [List.length_map]; exact l) fun i x d hx hd => ?_
  rw [List.getElem?_map] at hx hd
  obtain ⟨y, hy, rfl⟩ := Option.map_eq_some_iff.mp hx
  rw [hy] at hd
  cases hd
  cases y with
  | none => exact .non
  | some i => exact .int i
def spLeastsR (K : PySem.W.Frag) : Sp := fun vs H Q _ => ∃ (a d : Addr) (ns : List Int) (named : Int), vs = [.ref a, .ref d, .int named] ∧ H a = some (.lst (ns.map V.int)) ∧ H d = some (.lst ((leastL ns).map optV)) ∧ GoodR ns ∧ ∀ H', Ex H H' → Q (.bl true) H'
theorem ok_law_leasts_right (T : TK K mg) : FnOk P w K mg base CX0 11 T.law_leasts_right.a T.law_leasts_right.fd ["row", "due", "named"] (spLeastsR K) := by
  refine T.law_leasts_right.F.ok sc_law_leasts_right (fun vs H Q E h => ?_) (fun cdv A outer s H vs Q E hr h => ?_)
  · obtain ⟨a, d, ns, named, rfl, _⟩ := h; rfl
  obtain ⟨a, d, ns, named, rfl, ha, hd, g, q⟩ := h
  refine ⟨_, (pss_cons (ps_for PassesOwn.never rfl (pi_range1 rfl T.z_range (pa_cons pe_int pa_nil)) (pg_name (i := 3) sc_law_leasts_right.nd rfl (Or.inl rfl)) (pss_cut (ps_set (i := 4) sc_law_leasts_right.nd rfl (Or.inl rfl) (pe_ifExp (pt_cmpR op_lt (pe_op op_mod (pe_callTy call_int1 (by rfl) T.z_int (by decide +kernel) (pa_cons (pe_op op_add (pv 2) (pv 3)) pa_nil)) pe_int) pe_int (nomark _)) (pe_callTy (klist K) (by rfl) T.z_list (by decide +kernel) (pa_cons (pv 0) pa_nil)) (pe_callTy (ktuple K) (by rfl) T.z_tuple (by decide +kernel) (pa_cons (pv 0) pa_nil))))
    (pss_cut (ps_set (i := 5) sc_law_leasts_right.nd rfl (Or.inl rfl) (pe_ifExp (pt_cmpR op_eq (pv 2) pe_int (nomark _)) (pe_call (ok_leasts T) (hr.mono (by decide)) rfl T.leasts.m T.leasts.F.kp T.leasts.b .nil pass0 (pa_cons (pv 4) pa_nil)) (by exact (pe_callKw (ok_leasts T) (hr.mono (by decide)) rfl T.leasts.m T.leasts.F.kp T.kb_leasts_row (fun σ => pass0At) (pk_cons (pv 4) pk_nil)))))
    (pss_cons (ps_if (PW.pt (pw_or (pt_not (pt_val (pe_call (ok_law_same T.toTA1) (hr.mono (by decide)) rfl T.law_same.m T.law_same.F.kp T.law_same.b .nil pass0 (pa_cons (pv 5) (pa_cons (pv 1) pa_nil))))) (pw_or1 (pt_not (pt_val (pe_call (ok_law_same T.toTA1) (hr.mono (by decide)) rfl T.law_same.m T.law_same.F.kp T.law_same.b .nil pass0 (pa_cons (pe_callTy (klist K) (by rfl) T.z_list (by decide +kernel) (pa_cons (pv 4) pa_nil)) (pa_cons (pv 0) pa_nil)))))))) (pss_one (ps_ret pe_bl)) pss_nil)
    (pss_cut (ps_asg (pe_ifExp (pt_cmpR op_notN (pe_ix (kixl K) (pv 5) pe_int (fun _ _ => rfl)) pe_non (nomark _)) pe_non pe_int) (pg_sub (pv 5) pe_int set_list))
    (pss_one (ps_expr (pe_bm PySem.F.plainAttrs_list PySem.F.slot_list_append PySem.F.type_list_append mt_append (pv 5) (pa_cons pe_int pa_nil)))))))))
    (pss_one (ps_ret pe_bl))), ?_⟩
  have l9 : ns.length ≤ 900 := by have := g.1; omega
  have ll : (leastL ns).length ≤ 17 := by rw [leastL_len]; have := g.1; omega
  have nl : numsD (.list (ns.map PyData.int)) = ns := nums_map
  have nt : numsD (.tuple (ns.map PyData.int)) = ns := nums_map
  refine ⟨2, rfl, by decide, by decide, for_range (lo := 0) (n := 2) (fun i σ H' => Ex H H' ∧ ∃ v3 v4 v5 : Option V, σ = [some (.ref a), some (.ref d), some (.int named), v3, v4, v5]) ⟨Ex.refl _, _, _, _, rfl⟩ ?_ ?_⟩
  · rintro i σ H' hi ⟨e, v3, v4, v5, rfl⟩
    have ha1 := e _ _ ha
    refine ⟨fun σ G => Ex H G ∧ ∃ (c : Addr) (dc : PyData), Rd K (fun _ => True) G 1 (.ref c) dc ∧ rowD dc = true ∧ numsD dc = ns ∧ (SqL K G c (ns.map V.int) ∨ SqT K G c (ns.map V.int)) ∧ σ = [some (.ref a), some (.ref d), some (.int named), some (.int (0 + (i : Int))), some (.ref c), v5], ?_, ?_⟩
    · refine ⟨_, rfl, _, rfl, _, _, rfl, rfl, .inl ⟨_, rfl, _, _, rfl, rfl, (by show (0 : Int) < 3; decide), _, _, rfl, rfl, _, rfl, ite2 (fun _ => ?_) (fun _ => ?_)⟩⟩
      · exact ⟨_, rfl, a, _, rfl, .inl (SqL.of ha1), fun c hc => ⟨e.trans (Ex.new hc), c, _, rd_ilist upd_same trivial l9, row_list g, nl, .inl (SqL.of upd_same), rfl⟩⟩
      · exact ⟨_, rfl, a, _, rfl, .inl ⟨SqL.of ha1, fun c hc => ⟨e.trans (Ex.new hc), c, _, rd_ituple (SqT.of upd_same) trivial l9, row_tup g, nt, .inr (SqT.of upd_same), rfl⟩⟩⟩
    rintro σ G ⟨eg, c, dc, rc, rowc, nc, sc, rfl⟩
    refine ⟨fun σ G => Ex H G ∧ ∃ (t : Addr), H t = none ∧ G t = some (.lst ((leastL ns).map optV)) ∧ (SqL K G c (ns.map V.int) ∨ SqT K G c (ns.map V.int)) ∧ σ = [some (.ref a), some (.ref d), some (.int named), some (.int (0 + (i : Int))), some (.ref c), some (.ref t)], ?_, ?_⟩
    · have fin : ∀ (t : Addr) (G1 : Hp), G t = none → Ex G G1 → G1 t = some (.lst ((leastL (numsD dc)).map optV)) → (fun σ G => Ex H G ∧ ∃ (t : Addr), H t = none ∧ G t = some (.lst ((leastL ns).map optV)) ∧ (SqL K G c (ns.map V.int) ∨ SqT K G c (ns.map V.int)) ∧ σ = [some (V.ref a), some (.ref d), some (.int named), some (.int (0 + (i : Int))), some (.ref c), some (.ref t)]) [some (.ref a), some (.ref d), some (.int named), some (.int (0 + (i : Int))), some (.ref c), some (.ref t)] G1 := fun t G1 ht e1 h1 =>
        ⟨eg.trans e1, t, fresh_back eg ht, by rw [nc] at h1; exact h1, sc.imp (ex_l e1) (ex_t e1), rfl⟩
      refine ⟨_, rfl, rfl, _, rfl, ite2 (fun _ => ?_) (fun _ => ?_)⟩
      · exact ⟨_, rfl, .ref c, dc, 1, _, rfl, rc, rowc, fun t G1 ht e1 h1 => fin t G1 ht e1 h1⟩
      · exact ⟨_, rfl, .ref c, dc, 1, _, rfl, rc, rowc, fun t G1 ht e1 h1 => fin t G1 ht e1 h1⟩
    rintro σ G1 ⟨e1, t, t0, ht, sc1, rfl⟩
    have td : Sm K G1 8 (.ref t) (.ref d) := ((rd_opts (ok := fun _ => True) ht trivial (by omega)).le (by omega)).sm ((rd_opts (ok := fun _ => True) (e1 _ _ hd) trivial (by omega)).le (by omega))
    refine ⟨_, rfl, _, rfl, .ref t, .ref d, rfl, td, fun G2 e2 => ⟨_, rfl, iteF ?_⟩⟩
    have e12 := e1.trans e2
    refine ⟨_, rfl, c, _, rfl, sc1.imp (ex_l e2) (ex_t e2), fun l hl => ?_⟩
    have el := Ex.new (o := .lst (ns.map V.int)) hl
    have la : Sm K (upd G2 l (.lst (ns.map V.int))) 8 (.ref l) (.ref a) := ((rd_ilist (ok := fun _ => True) upd_same trivial l9).le (by omega)).sm ((rd_ilist (ok := fun _ => True) (el _ _ (e12 _ _ ha)) trivial l9).le (by omega))
    refine ⟨_, rfl, .ref l, .ref a, rfl, la, fun G3 e3 => ⟨_, rfl, iteF ?_⟩⟩
    have e23 := (e2.trans el).trans e3
    have ht3 := e23 _ _ ht
    have e13 := e1.trans e23
    obtain ⟨x0, xr, hx⟩ : ∃ x0 xr, (leastL ns).map optV = x0 :: xr := by
      obtain ⟨r, hr⟩ := leastL_head ns
      exact ⟨_, _, by rw [hr]; rfl⟩
    have lx : (x0 :: xr).length ≤ 17 := by rw [← hx, List.length_map]; exact ll
    rw [hx] at ht3
    refine ⟨fun σ G => Ex H G ∧ ∃ xs : List V, xs.length ≤ 17 ∧ G t = some (.lst xs) ∧ σ = [some (.ref a), some (.ref d), some (.int named), some (.int (0 + (i : Int))), some (.ref c), some (.ref t)], ?_, ?_⟩
    · have set : ∀ v : V, (fun σ G => Ex H G ∧ ∃ xs : List V, xs.length ≤ 17 ∧ G t = some (.lst xs) ∧ σ = [some (V.ref a), some (.ref d), some (.int named), some (.int (0 + (i : Int))), some (.ref c), some (.ref t)]) [some (.ref a), some (.ref d), some (.int named), some (.int (0 + (i : Int))), some (.ref c), some (.ref t)] (upd G3 t (.lst ((x0 :: xr).set 0 v))) := fun v =>
        ⟨e13.mut t0, _, by rw [List.length_set]; exact lx, upd_same, rfl⟩
      refine ⟨_, rfl, t, _, 0, x0, rfl, rfl, SqL.of ht3, at_of (show (0 : Int) = ((0 : Nat) : Int) from rfl) rfl, rfl, _, rfl, ite2 (fun _ => ?_) (fun _ => ?_)⟩
      · exact ⟨_, rfl, t, _, 0, 0, rfl, rfl, ht3, ixN_int (by decide) (by show (0 : Int) < ((xr.length + 1 : Nat) : Int); omega), set _⟩
      · exact ⟨_, rfl, t, _, 0, 0, rfl, rfl, ht3, ixN_int (by decide) (by show (0 : Int) < ((xr.length + 1 : Nat) : Int); omega), set _⟩
    rintro σ G4 ⟨e4, xs, lxs, h4, rfl⟩
    exact ⟨_, rfl, .inl ⟨rfl, _, SqL.of h4⟩, t, xs, _, rfl, rfl, h4, small1000 (by omega), e4.mut t0, _, _, _, rfl⟩
  · rintro σ H' ⟨e, v3, v4, v5, rfl⟩
    exact q H' e
end
end L2.U


set_option Elab.async false
set_option linter.all false
set_option maxRecDepth 100000
set_option maxHeartbeats 4000000
namespace L2.U
open PySem PySem.Spec PyProof.Rows Evl
section
variable {P : Program} {w : World} {K : PySem.W.Frag} {mg : Str → Option Value} {base : Heap}
theorem rd_rowBk {ok : Addr → Prop} {H : Hp} {j m : Nat} {x : V} {t : Nat → Bool} (h : Rd K ok H j x (rowB m t)) : ∃ b xs, x = .ref b ∧ ok b ∧ H b = some (.lst xs) ∧ xs.length = m + 1 ∧ ∀ a, a ≤ m → xs[a]? = some (.bl (t a)) := by
  unfold rowB at h
  generalize hd : (PyData.list ((List.range (m + 1)).map fun a => PyData.bool (t a))) = d at h
  cases h with
  | lst h ha hl hz all =>
    cases hd
    rw [List.length_map, List.length_range] at hl
    refine ⟨_, _, rfl, ha, h, hl, fun a ha => ?_⟩
    have hx := List.getElem?_eq_getElem (show a < _ by rw [hl]; omega)
    rw [hx]
    have r := all a _ (.bool (t a)) hx (by rw [List.getElem?_map, List.getElem?_range (by omega)]; rfl)
    generalize (_ : List V)[a]'_ = y at r ⊢
    cases r
    rfl
  | _ => cases hd
def TabsW (b : Addr) (H : Hp) (tp : Addr) (xs : List V) (ns : List Int) : Prop := H tp = some (.lst xs) ∧ tp ≠ b ∧ xs.length = ns.length + 1 ∧
  ∀ k, k ≤ ns.length → ∃ q1 ys, xs[k]? = some (.ref q1) ∧ q1 ≠ b ∧ H q1 = some (.lst ys) ∧ ys.length = 25 ∧ ∀ a, a ≤ 24 → ys[a]? = some (.bl (canT (ns.drop k) a))
theorem TabsW.but {b tp : Addr} {H H' : Hp} {xs : List V} {ns : List Int} (t : TabsW b H tp xs ns) (k : But b H H') : TabsW b H' tp xs ns := ⟨k _ _ t.2.1 t.1, t.2.1, t.2.2.1, fun j hj => by
  obtain ⟨q1, ys, h1, h2, h3, h4, h5⟩ := t.2.2.2 j hj
  exact ⟨q1, ys, h1, h2, k _ _ h2 h3, h4, h5⟩⟩
theorem tabsW_of {b tp : Addr} {n : Nat} {H H1 : Hp} {ns : List Int} (hB : BoxAt H b n) (r : Rd K (fun a => H a = none) H1 2 (.ref tp) (tablesW ns)) : ∃ xs, TabsW b H1 tp xs ns := by
  obtain ⟨xs, h, o, hl, _, all⟩ := rd_lst_at r
  rw [List.length_map, sufs_len] at hl
  refine ⟨xs, h, hB.ne o, hl, fun k hk => ?_⟩
  have hx := List.getElem?_eq_getElem (show k < xs.length by omega)
  have r1 := all k _ (rowB 24 (canT (ns.drop k))) hx (by rw [List.getElem?_map, sufs_at ns k hk]; rfl)
  obtain ⟨q1, ys, e, o1, h1, l1, v1⟩ := rd_rowBk r1
  exact ⟨q1, ys, by rw [hx, e], hB.ne o1, h1, l1, v1⟩
theorem leastL_at : ∀ (ns : List Int) (k : Nat), k ≤ ns.length → (leastL ns)[k]? = some (leastO (ns.drop k))
  | [], 0, _ => rfl
  | x :: ns, 0, _ => rfl
  | [], k + 1, h => absurd h (Nat.not_succ_le_zero k)
  | x :: ns, k + 1, h => leastL_at ns k (Nat.le_of_succ_le_succ h)
theorem head_least (ms : List Int) : (((List.range 25).filter fun k => canT ms k).map fun l : Nat => (l : Int)).head? = leastO ms := by
  apply least_unique
  have pw : ((List.range 25).filter fun k => canT ms k).Pairwise (· < ·) := List.pairwise_lt_range.filter _
  have mem : ∀ k, k ∈ ((List.range 25).filter fun k => canT ms k) ↔ k < 25 ∧ canT ms k = true := fun k => by rw [List.mem_filter, List.mem_range]
  generalize (List.range 25).filter (fun k => canT ms k) = L at pw mem
  cases L with
  | nil =>
    intro k hk
    exact Bool.eq_false_iff.mpr fun c => absurd ((mem k).mpr ⟨by omega, c⟩) (List.not_mem_nil)
  | cons l r =>
    obtain ⟨l25, lc⟩ := (mem l).mp List.mem_cons_self
    refine ⟨l, rfl, by omega, fun k hk => ⟨fun c => ?_, fun h => canT_mono ms l k h hk lc⟩⟩
    rcases List.mem_cons.mp ((mem k).mpr ⟨by omega, c⟩) with h | h
    · omega
    · exact Nat.le_of_lt (List.rel_of_pairwise_cons pw h)
theorem drop_good {ns : List Int} {k : Nat} (g : GoodR ns) : GoodR (ns.drop k) := ⟨by rw [List.length_drop]; have := g.1; omega, fun z hz => g.2 z (List.mem_of_mem_drop hz)⟩
def spRests (K : PySem.W.Frag) : Sp := fun vs H Q _ => ∃ (b a p : Addr) (k j : Nat) (ns : List Int) (ok : Addr → Prop), vs = [.ref b, .ref a, .ref p] ∧ BoxAt H b (k + 4) ∧ H a = some (.lst (ns.map V.int)) ∧ a ≠ b ∧ GoodR ns ∧ Rd K ok H j (.ref p) (list2 (rT 25)) ∧
  ∀ H', BoxAt H' b k → But b H H' → Q (.bl true) H'
theorem ok_law_rests_right (T : TK K mg) : FnOk P w K mg base CX0 12 T.law_rests_right.a T.law_rests_right.fd ["box", "row", "raised"] (spRests K) := by
  refine T.law_rests_right.F.ok sc_law_rests_right (fun vs H Q E h => ?_) (fun cdv A outer s H vs Q E hr h => ?_)
  · obtain ⟨b, a, p, k, j, ns, ok, rfl, _⟩ := h; rfl
  obtain ⟨b, a, p, k, j, ns, ok, rfl, hB, ha, ab, g, hp, q⟩ := h
  refine ⟨_, (pss_cons (ps_asg (pe_tup (pa_cons (pe_call (ok_law_wire_tables T) (hr.mono (by decide)) rfl T.law_wire_tables.m T.law_wire_tables.F.kp T.law_wire_tables.b .nil pass0 (pa_cons (pv 1) (pa_cons (pv 2) pa_nil))) (pa_cons (pe_call (ok_law_take T.toTA1) (hr.mono (by decide)) rfl T.law_take.m T.law_take.F.kp T.law_take.b .nil pass0 (pa_cons (pv 0) (pa_cons pe_int pa_nil))) (pa_cons (pe_lst pa_nil) (pa_cons (pe_call (ok_law_take T.toTA1) (hr.mono (by decide)) rfl T.law_take.m T.law_take.F.kp T.law_take.b .nil pass0 (pa_cons (pv 0) (pa_cons (pe_op op_add (pe_callB (klen K) (by rfl) T.z_len (by decide +kernel) (pa_cons (pv 1) pa_nil)) pe_int) pa_nil))) pa_nil))))) (pg_tup (by rfl) (pgs_cons (pg_name (i := 3) sc_law_rests_right.nd rfl (Or.inl rfl)) (pgs_cons (pg_name (i := 4) sc_law_rests_right.nd rfl (Or.inl rfl)) (pgs_cons (pg_name (i := 5) sc_law_rests_right.nd rfl (Or.inl rfl)) (pgs_cons (pg_name (i := 6) sc_law_rests_right.nd rfl (Or.inl rfl)) pgs_nil))))))
    (pss_cons (ps_for PassesOwn.never rfl (kpil K (pv 3)) (pg_name (i := 7) sc_law_rests_right.nd rfl (Or.inr rfl)) (pss_cons (ps_setLc (i := 8) (own := [("k", 12)]) (g := gName 12) (by rfl) sc_law_rests_right.nd rfl rfl (sw_true rfl rfl rfl (by decide +kernel)) (pi_range1 rfl T.z_range (pa_cons (pe_callB (klen K) (by rfl) T.z_len (by decide +kernel) (pa_cons (pv 7) pa_nil)) pa_nil)) (blkOk_by (own := [("k", 12)]) (N := ["box", "row", "raised", "tables", "named", "due", "at", "table", "enough", "place", "edge", "wires", "k"]) (sc := defScope s_law_rests_right) (by decide +kernel)) (fun _ _ _ _ _ => (pg_name (i := 12) sc_law_rests_right.nd rfl (Or.inl rfl))) (fun _ _ _ _ _ => (pts_one (pt_val (pe_ix (kixl K) (pv 7) (pv 12) (fun _ _ => rfl))))) (fun _ _ _ _ _ => (pv 12)))
    (pss_one (ps_expr (pe_bm PySem.F.plainAttrs_list PySem.F.slot_list_append PySem.F.type_list_append mt_append (pv 5) (pa_cons (pe_ifExp (pt_cmpR (kneD K hr.units) (pv 8) (pe_lst pa_nil) (nomark _)) (pe_ix (kixl K) (pv 8) pe_int (fun _ _ => rfl)) pe_non) pa_nil))))))
    (pss_cons (ps_for PassesOwn.never rfl (kpil K (pe_lst (pa_cons pe_int (pa_cons (pv 6) pa_nil)))) (pg_name (i := 9) sc_law_rests_right.nd rfl (Or.inl rfl)) (pss_cut (ps_set (i := 10) sc_law_rests_right.nd rfl (Or.inl rfl) (pe_ifExp (pt_cmpR op_notN (pe_ix (kixl K) (pv 5) (pv 9) (fun _ _ => rfl)) pe_non (nomark _)) (pe_ix (kixl K) (pv 5) (pv 9) (fun _ _ => rfl)) pe_int))
    (pss_one (ps_for PassesOwn.never rfl (kpil K (pe_lst (pa_cons (pv 10) (pa_cons (pe_callB (call_max2 rfl) (by rfl) T.z_max (by decide +kernel) (pa_cons pe_int (pa_cons (pe_op op_sub (pv 10) pe_int) pa_nil))) (pa_cons pe_int (pa_cons (pe_call (ok_law_take T.toTA1) (hr.mono (by decide)) rfl T.law_take.m T.law_take.F.kp T.law_take.b .nil pass0 (pa_cons (pv 0) (pa_cons pe_int pa_nil))) pa_nil)))))) (pg_name (i := 11) sc_law_rests_right.nd rfl (Or.inl rfl)) (pss_one (ps_if (pt_not (pt_val (pe_call (ok_law_same T.toTA1) (hr.mono (by decide)) rfl T.law_same.m T.law_same.F.kp T.law_same.b .nil pass0 (pa_cons (pe_call (ok_law_told T) (hr.mono (by decide)) rfl T.law_told.m T.law_told.F.kp T.law_told.b .nil pass0 (pa_cons (pe_slice (kslL K) (pv 1) (po_some (pv 9)) po_none) (pa_cons (pv 11) (pa_cons (pv 4) pa_nil)))) (pa_cons (pe_ix (kixl K) (pe_ix (kixl K) (pv 3) (pv 9) (fun _ _ => rfl)) (pv 11) (fun _ _ => rfl)) pa_nil))))) (pss_one (ps_ret pe_bl)) pss_nil))))))
    (pss_one (ps_ret (pe_call (ok_law_leasts_right T) (hr.mono (by decide)) rfl T.law_leasts_right.m T.law_leasts_right.F.kp T.law_leasts_right.b .nil pass0 (pa_cons (pv 1) (pa_cons (pv 5) (pa_cons (pv 4) pa_nil))))))))), ?_⟩
  have g16 := g.1
  refine ⟨_, rfl, _, rfl, a, p, ns, j, ok, rfl, SqL.of ha, by omega, hp, fun tp H1 e1 rt => ?_⟩
  refine ⟨_, rfl, b, 3, k + 3, rfl, by decide, by decide, hB.ex e1, fun nm H2 _ _ B2 k2 => ⟨Nat.zero_le _, fun du hdu => ?_⟩⟩
  have kb2 := (But.of (b := b) e1).trans k2
  have ha2 := kb2 _ _ ab ha
  obtain ⟨xs, tb1⟩ := tabsW_of hB rt
  have tb2 := tb1.but k2
  have dub : du ≠ b := B2.ne hdu
  have e3 := Ex.new (o := .lst []) hdu
  have hd3 := upd_same (H := H2) (a := du) (o := .lst [])
  have B3 := B2.ex e3
  have k3 := But.of (b := b) e3
  generalize upd H2 du (.lst []) = H3 at e3 hd3 B3 k3 ⊢
  refine ⟨_, rfl, _, rfl, _, ns.length, rfl, .inl ⟨_, SqL.of (k3 _ _ ab ha2), (List.length_map ..).symm⟩, _, _, rfl, rfl, b, (ns.length : Int) + 1, k + 2, rfl, by omega, by omega, B3, fun at1 H4 a0 a1 B4 k4 => ⟨four_le, fun t ht => ⟨t, _, rfl, SqT.of upd_same, rfl, _, _, rfl, _, _, rfl, _, _, rfl, _, _, rfl, rfl, ?_⟩⟩⟩
  have e5 := Ex.new (o := .tup [.ref tp, .int nm, .ref du, .int at1]) ht
  have k5 := (k3.trans k4).trans (But.of e5)
  have B5 := B4.ex e5
  have hd5 := e5 _ _ (k4 _ _ dub hd3)
  generalize upd H4 t (.tup [.ref tp, .int nm, .ref du, .int at1]) = H5 at e5 k5 B5 hd5 ⊢
  have ll := leastL_len ns
  refine ⟨_, rfl, tp, rfl, ⟨_, SqL.of (tb2.but k5).1⟩, for_list (xs := xs) (fun i σ G => BoxAt G b (k + 2) ∧ But b H2 G ∧ ∃ v7 v8 : Option V, G du = some (.lst (((leastL ns).take i).map optV)) ∧ σ = [some (.ref b), some (.ref a), some (.ref p), some (.ref tp), some (.int nm), some (.ref du), some (.int at1), v7, v8, none, none, none, none])
    ⟨B5, k5, _, _, hd5, rfl⟩ (fun i σ G _ p => SqL.of (tb2.but p.2.1).1) ?_ ?_⟩
  · rintro i v σ G hx ⟨B, kb, v7, v8, hd, rfl⟩
    have hi := (List.getElem?_eq_some_iff.mp hx).1
    have hin : i ≤ ns.length := by have := tb2.2.2.1; omega
    obtain ⟨q1, ys, h1, h2, h3, h4, h5⟩ := (tb2.but kb).2.2.2 i hin
    rw [hx] at h1
    obtain rfl := Option.some.inj h1
    have c1 := el_lcR1 (σ := [some (.ref b), some (.ref a), some (.ref p), some (.ref tp), some (.int nm), some (.ref du), some (.int at1), some (.ref q1), v8, none, none, none, none]) (H := G)
      (ta := tCons (tCB (rLen K) (tCons (tVar 7) tNil)) tNil) (t := tB (tOp (rIxL K) (tVar 7) (tVar 12))) (te := tVar 12) (j := 12) (vs := [12]) (n := 25) (fun l => canT (ns.drop i) l) (fun l => .int (l : Int))
      (fun H0 e Q q => ⟨_, rfl, _, 25, rfl, .inl ⟨ys, SqL.of (e _ _ h3), h4.symm⟩, q H0 (Ex.refl _)⟩) ⟨by omega, by omega⟩ (fun _ => rfl)
      (fun l G2 eg2 hl2 => et_B (ev_op (ev_var rfl) (ev_var rfl) (rv_ixL (SqL.of (eg2 _ _ h3)) (atI_nat (h5 l (by omega)))))) (fun l G2 eg2 hl2 _ => ev_var rfl)
    rw [given_ints, show (25 : Int).toNat = 25 from rfl] at c1
    have hl := head_least (ns.drop i)
    have llen : (((List.range 25).filter fun l => canT (ns.drop i) l).map fun l : Nat => (l : Int)).length ≤ 25 := by
      have := List.length_filter_le (fun l => canT (ns.drop i) l) (List.range 25)
      rw [List.length_range] at this
      rw [List.length_map]
      omega
    generalize ((List.range 25).filter fun l => canT (ns.drop i) l).map (fun l : Nat => (l : Int)) = L at c1 hl llen
    refine el_seq (i := 8) c1 fun wv G2 hw eg hwv => ?_
    have BG := B.ex eg
    have kG := kb.trans (But.of eg)
    have hdG := eg _ _ hd
    refine ⟨_, rfl, .inl ⟨rfl, _, SqL.of hdG⟩, _, rfl, Nat.zero_le _, fun z hz => ?_⟩
    have ez := Ex.new (o := .lst []) hz
    have hw3 := ez _ _ hwv
    have rdw : Rd K (fun _ => True) (upd G2 z (.lst [])) 1 (.ref wv) (.list (L.map PyData.int)) := rd_ilist hw3 trivial (by omega)
    have rde : Rd K (fun _ => True) (upd G2 z (.lst [])) 1 (.ref z) (.list []) := .lst upd_same trivial rfl (Nat.zero_le _) (fun i x d hx _ => by cases hx)
    refine ⟨_, _, rdw.dp, rde.dp, rdw.shaped (by omega), rde.shaped (by omega), _, rfl, ?_⟩
    have tk : (leastL ns).take (i + 1) = (leastL ns).take i ++ [leastO (ns.drop i)] := by
      rw [List.take_add_one, leastL_at ns i hin]
      rfl
    have sm : (((leastL ns).take i).map optV).length < sizeLine := small1000 (by rw [List.length_map, List.length_take]; omega)
    generalize upd G2 z (.lst []) = G3 at ez hw3 rdw rde ⊢
    have fin : BoxAt (upd G3 du (.lst (((leastL ns).take i).map optV ++ [optV (leastO (ns.drop i))]))) b (k + 2) ∧ But b H2 (upd G3 du (.lst (((leastL ns).take i).map optV ++ [optV (leastO (ns.drop i))]))) ∧ ∃ v7' v8' : Option V, (upd G3 du (.lst (((leastL ns).take i).map optV ++ [optV (leastO (ns.drop i))]))) du = some (.lst (((leastL ns).take (i + 1)).map optV)) ∧ [some (V.ref b), some (.ref a), some (.ref p), some (.ref tp), some (.int nm), some (.ref du), some (.int at1), some (.ref q1), some (.ref wv), none, none, none, none] = [some (.ref b), some (.ref a), some (.ref p), some (.ref tp), some (.int nm), some (.ref du), some (.int at1), v7', v8', none, none, none, none] :=
      ⟨box_mut (BG.ex ez) dub, butMut (kG.trans (But.of ez)) hdu, _, _, by rw [upd_same, tk, List.map_append]; rfl, rfl⟩
    cases L with
    | nil =>
      have hl : leastO (ns.drop i) = none := hl.symm
      rw [hl] at fin
      exact iteF ⟨du, _, _, rfl, rfl, ez _ _ hdG, sm, fin⟩
    | cons x r =>
      have hl : leastO (ns.drop i) = some x := hl.symm
      rw [hl] at fin
      exact iteT ⟨_, rfl, wv, _, 0, .int x, rfl, rfl, SqL.of hw3, at_of (show (0 : Int) = ((0 : Nat) : Int) from rfl) rfl, du, _, _, rfl, rfl, ez _ _ hdG, sm, fin⟩
  · rintro σ G ⟨B, kb, v7, v8, hd, rfl⟩
    have tkl : (leastL ns).take xs.length = leastL ns := List.take_of_length_le (by have := tb2.2.2.1; omega)
    rw [tkl] at hd
    refine ⟨_, rfl, two_le, fun L hL => ?_⟩
    have e6 := Ex.new (o := .lst [.int 0, .int at1]) hL
    have hL6 := upd_same (H := G) (a := L) (o := .lst [.int 0, .int at1])
    have B6 := B.ex e6
    have k6 := kb.trans (But.of e6)
    have hd6 := e6 _ _ hd
    have Lb : L ≠ b := B.ne hL
    generalize upd G L (.lst [.int 0, .int at1]) = H6 at e6 hL6 B6 k6 hd6 ⊢
    refine ⟨L, rfl, ⟨_, SqL.of hL6⟩, for_list (xs := [.int 0, .int at1]) (fun i σ G => BoxAt G b (k + (2 - i)) ∧ But b H6 G ∧ ∃ v9 v10 v11 : Option V, σ = [some (.ref b), some (.ref a), some (.ref p), some (.ref tp), some (.int nm), some (.ref du), some (.int at1), v7, v8, v9, v10, v11, none])
      ⟨B6, But.of (Ex.refl _), _, _, _, rfl⟩ (fun i σ G _ p => SqL.of (p.2.1 _ _ Lb hL6)) ?_ ?_⟩
    · rintro i v σ G hx ⟨B, kb, v9, v10, v11, rfl⟩
      have hi2 : i < 2 := (List.getElem?_eq_some_iff.mp hx).1
      obtain ⟨At, rfl, hAt⟩ : ∃ At : Nat, v = .int (At : Int) ∧ At ≤ ns.length := by
        match i, hi2, hx with
        | 0, _, hx => cases hx; exact ⟨0, rfl, Nat.zero_le _⟩
        | 1, _, hx => cases hx; exact ⟨at1.toNat, by rw [Int.toNat_of_nonneg a0], by omega⟩
      have hdg := kb _ _ dub hd6
      have hat : ((leastL ns).map optV)[At]? = some (optV (leastO (ns.drop At))) := by rw [List.getElem?_map, leastL_at ns At hAt]; rfl
      have li := least_is (ns.drop At)
      refine ⟨fun σ G' => G' = G ∧ ∃ E : Nat, E ≤ 24 ∧ σ = [some (.ref b), some (.ref a), some (.ref p), some (.ref tp), some (.int nm), some (.ref du), some (.int at1), v7, v8, some (.int (At : Int)), some (.int (E : Int)), v11, none], ?_, ?_⟩
      · refine ⟨_, rfl, _, rfl, du, _, _, _, rfl, rfl, SqL.of hdg, atI_nat hat, rfl, _, rfl, ite2 (fun c => ?_) (fun c => ⟨rfl, 24, Nat.le_refl _, rfl⟩)⟩
        generalize leastO (ns.drop At) = o at hat li c
        cases o with
        | none => cases c
        | some x =>
          obtain ⟨l, rfl, hl, _⟩ := li
          exact ⟨_, rfl, _, rfl, du, _, _, _, rfl, rfl, SqL.of hdg, atI_nat hat, rfl, l, hl, rfl⟩
      rintro σ G' ⟨rfl, E, hE, rfl⟩
      refine ⟨_, rfl, _, rfl, _, _, rfl, rfl, _, _, rfl, _, rfl, b, 25, k + (2 - (i + 1)), rfl, by decide, by decide, B.le (by omega), fun tt G2 t0 t1 B2 k2 => ⟨four_le, fun Ls hLs => ?_⟩⟩
      obtain ⟨M, hM, hM0, hM24⟩ : ∃ M : Int, (if (E : Int) - 1 > 0 then (E : Int) - 1 else 0) = M ∧ 0 ≤ M ∧ M ≤ 24 := ⟨_, rfl, by split <;> omega, by split <;> omega⟩
      rw [hM]
      have e8 := Ex.new (o := .lst [.int (E : Int), .int M, .int 24, .int tt]) hLs
      have hL8 := upd_same (H := G2) (a := Ls) (o := .lst [.int (E : Int), .int M, .int 24, .int tt])
      have B8 := B2.ex e8
      have k8 := (kb.trans k2).trans (But.of e8)
      generalize upd G2 Ls (.lst [.int (E : Int), .int M, .int 24, .int tt]) = H8 at e8 hL8 B8 k8 ⊢
      refine ⟨Ls, rfl, ⟨_, SqL.of hL8⟩, for_list (xs := [.int (E : Int), .int M, .int 24, .int tt]) (fun j σ H' => Ex H8 H' ∧ ∃ v11 : Option V, σ = [some (.ref b), some (.ref a), some (.ref p), some (.ref tp), some (.int nm), some (.ref du), some (.int at1), v7, v8, some (.int (At : Int)), some (.int (E : Int)), v11, none]) ⟨Ex.refl _, _, rfl⟩ (fun j σ H' _ p => SqL.of (p.1 _ _ hL8)) ?_ ?_⟩
      · rintro jj v σ H9 hj ⟨e9, u11, rfl⟩
        have hj4 : jj < 4 := (List.getElem?_eq_some_iff.mp hj).1
        obtain ⟨z, rfl, hz⟩ : ∃ z : Nat, v = .int (z : Int) ∧ z ≤ 24 := by
          match jj, hj4, hj with
          | 0, _, hj => cases hj; exact ⟨E, rfl, hE⟩
          | 1, _, hj => cases hj; exact ⟨M.toNat, by rw [Int.toNat_of_nonneg hM0], by omega⟩
          | 2, _, hj => cases hj; exact ⟨24, rfl, Nat.le_refl _⟩
          | 3, _, hj => cases hj; exact ⟨tt.toNat, by rw [Int.toNat_of_nonneg t0], by omega⟩
        have k9 := (k6.trans k8).trans (But.of e9)
        have ha9 := k9 _ _ ab ha2
        refine ⟨_, rfl, _, rfl, (At : Int), rfl, a, _, rfl, SqL.of ha9, fun c hc => ?_⟩
        have ec := Ex.new (o := .lst (cutV (ns.map V.int) (some (At : Int)) none)) hc
        have cd : cutV (ns.map V.int) (some (At : Int)) none = (ns.drop At).map V.int := by
          rw [cutV_drop (by rw [List.length_map]; exact hAt), List.map_drop]
        refine ⟨_, rfl, _, rfl, c, ns.drop At, z, nm, rfl, by rw [upd_same, cd], drop_good g, hz, fun H10 e10 => ?_⟩
        have k10 := (k9.trans (But.of ec)).trans (But.of e10)
        obtain ⟨tx, _, _, tall⟩ := tb2.but k10
        obtain ⟨q1, ys, h1, h2, h3, h4, h5⟩ := tall At hAt
        exact ⟨_, rfl, _, rfl, tp, _, _, .ref q1, rfl, rfl, SqL.of tx, atI_nat h1, _, rfl, q1, _, _, .bl _, rfl, rfl, SqL.of h3, atI_nat (h5 z hz), _, _, rfl, .bl _, fun H11 e11 => ⟨_, rfl, iteF ⟨((e9.trans ec).trans e10).trans e11, _, rfl⟩⟩⟩
      · rintro σ H9 ⟨e9, u11, rfl⟩
        exact ⟨B8.ex e9, k8.trans (But.of e9), _, _, _, rfl⟩
    · rintro σ G7 ⟨B7, k7, v9, v10, v11, rfl⟩
      have k27 := k6.trans k7
      exact ⟨_, rfl, _, rfl, _, rfl, a, du, ns, nm, rfl, k27 _ _ ab ha2, k7 _ _ dub hd6, g, fun H' e => q H' ((B7.ex e).le (by omega)) ((kb2.trans k27).trans (But.of e))⟩
end
end L2.U


set_option Elab.async false
set_option linter.all false
set_option maxRecDepth 100000
set_option maxHeartbeats 4000000
namespace L2.U
open PySem PySem.Spec PyProof.Rows Evl
section
variable {P : Program} {w : World} {K : PySem.W.Frag} {mg : Str → Option Value} {base : Heap}
def spLaw (K : PySem.W.Frag) : Sp := fun vs H Q _ => ∃ (a : Addr) (ns : List Int), vs = [.ref a] ∧ SqL K H a (ns.map V.int) ∧ ns.length ≤ 63 ∧ ∀ H', Q (.bl true) H'
theorem goodN_R {L : Nat} {ns : List Int} (g : GoodN L ns) (h : L ≤ 16) : GoodR ns := ⟨by have := g.1; omega, fun z hz => by have := g.2 z hz; omega⟩
theorem goodR_take {ns : List Int} {k : Nat} (g : GoodR ns) : GoodR (ns.take k) := ⟨by rw [List.length_take]; have := g.1; omega, fun z hz => g.2 z (List.mem_of_mem_take hz)⟩
theorem goodR_app {ns ms : List Int} (g : ∀ z ∈ ns, 1 ≤ z ∧ z ≤ 100000000000000000000000000000000000000000000000000) (g2 : ∀ z ∈ ms, 1 ≤ z ∧ z ≤ 100000000000000000000000000000000000000000000000000) : ∀ z ∈ ns ++ ms, 1 ≤ z ∧ z ≤ 100000000000000000000000000000000000000000000000000 := fun z hz => by
  rcases List.mem_append.mp hz with h | h
  · exact g z h
  · exact g2 z h
set_option hygiene false in
theorem ok_law (T : TK K mg) : FnOk P w K mg base CX0 13 T.law.a T.law.fd ["script"] (spLaw K) := by
  refine T.law.F.ok sc_law (fun vs H Q E h => ?_) (fun cdv A outer s H vs Q E hr h => ?_)
  · obtain ⟨a, ns, rfl, _⟩ := h; rfl
  obtain ⟨a, ns, rfl, ha, hl, q⟩ := h
  refine ⟨_, (pss_cons (ps_for PassesOwn.never rfl (pi_range1 rfl T.z_range (pa_cons (pe_callB (call_max2 rfl) (by rfl) T.z_max (by decide +kernel) (pa_cons pe_int (pa_cons (pe_callB (call_min2 rfl) (by rfl) T.z_min (by decide +kernel) (pa_cons pe_int (pa_cons (pe_callB (klen K) (by rfl) T.z_len (by decide +kernel) (pa_cons (pv 0) pa_nil)) pa_nil))) pa_nil))) pa_nil)) (pg_name (i := 1) sc_law.nd rfl (Or.inl rfl)) (pss_cons (ps_set (i := 2) sc_law.nd rfl (Or.inl rfl) (pe_call (ok_law_box T.toTA1) (hr.mono (by decide)) rfl T.law_box.m T.law_box.F.kp T.law_box.b .nil pass0 (pa_cons (pe_call (ok_law_cell T.toTA1) (hr.mono (by decide)) rfl T.law_cell.m T.law_cell.F.kp T.law_cell.b .nil pass0 (pa_cons (pv 0) (pa_cons (pv 1) pa_nil))) pa_nil)))
    (pss_cons (ps_asg (pe_tup (pa_cons (pe_call (ok_law_take T.toTA1) (hr.mono (by decide)) rfl T.law_take.m T.law_take.F.kp T.law_take.b .nil pass0 (pa_cons (pv 2) (pa_cons pe_int pa_nil))) (pa_cons (pe_call (ok_law_take T.toTA1) (hr.mono (by decide)) rfl T.law_take.m T.law_take.F.kp T.law_take.b .nil pass0 (pa_cons (pv 2) (pa_cons pe_int pa_nil))) (pa_cons (pe_call (ok_law_take T.toTA1) (hr.mono (by decide)) rfl T.law_take.m T.law_take.F.kp T.law_take.b .nil pass0 (pa_cons (pv 2) (pa_cons pe_int pa_nil))) (pa_cons (pe_call (ok_law_take T.toTA1) (hr.mono (by decide)) rfl T.law_take.m T.law_take.F.kp T.law_take.b .nil pass0 (pa_cons (pv 2) (pa_cons pe_int pa_nil))) pa_nil))))) (pg_tup (by rfl) (pgs_cons (pg_name (i := 3) sc_law.nd rfl (Or.inl rfl)) (pgs_cons (pg_name (i := 4) sc_law.nd rfl (Or.inl rfl)) (pgs_cons (pg_name (i := 5) sc_law.nd rfl (Or.inl rfl)) (pgs_cons (pg_name (i := 6) sc_law.nd rfl (Or.inl rfl)) pgs_nil))))))
    (pss_cut (ps_set (i := 7) sc_law.nd rfl (Or.inl rfl) (pe_ifExp (PW.pt (pw_and (pt_cmpR op_eq (pv 3) pe_int (nomark _)) (pw_and1 (pt_cmpR op_eq (pv 1) pe_int (nomark _))))) pe_int (pe_callTy call_int1 (by rfl) T.z_int (by decide +kernel) (pa_cons (pe_cmpR op_lt (pv 3) pe_int (nomark _)) pa_nil))))
    (pss_cons (ps_par (i := 8) (j := 9) (by rfl) sc_law.nd rfl rfl (by decide) rfl rfl (pa_cons (pe_ix (kixl K) (pe_lst (pa_cons pe_int (pa_cons pe_int (pa_cons pe_int pa_nil)))) (pv 7) (fun _ _ => rfl)) (pa_cons (pe_ix (kixl K) (pe_lst (pa_cons (pe_call (ok_law_take T.toTA1) (hr.mono (by decide)) rfl T.law_take.m T.law_take.F.kp T.law_take.b .nil pass0 (pa_cons (pv 2) (pa_cons pe_int pa_nil))) (pa_cons (pe_call (ok_law_take T.toTA1) (hr.mono (by decide)) rfl T.law_take.m T.law_take.F.kp T.law_take.b .nil pass0 (pa_cons (pv 2) (pa_cons pe_int pa_nil))) (pa_cons (pe_op op_sub pe_int (pe_call (ok_law_take T.toTA1) (hr.mono (by decide)) rfl T.law_take.m T.law_take.F.kp T.law_take.b .nil pass0 (pa_cons (pv 2) (pa_cons pe_int pa_nil)))) pa_nil)))) (pv 7) (fun _ _ => rfl)) pa_nil)) (by rfl))
    (pss_cons (ps_set (i := 10) sc_law.nd rfl (Or.inl rfl) (pe_call (ok_law_raised T) (hr.mono (by decide)) rfl T.law_raised.m T.law_raised.F.kp T.law_raised.b .nil pass0 (pa_cons pe_int pa_nil)))
    (pss_cons (ps_set (i := 11) sc_law.nd rfl (Or.inl rfl) (pe_call (ok_law_row T) (hr.mono (by decide)) rfl T.law_row.m T.law_row.F.kp T.law_row.b .nil pass0 (pa_cons (pv 2) (pa_cons (pv 10) (pa_cons (pv 9) (pa_cons (pe_op op_sub (pv 8) (pe_call (ok_law_take T.toTA1) (hr.mono (by decide)) rfl T.law_take.m T.law_take.F.kp T.law_take.b .nil pass0 (pa_cons (pv 2) (pa_cons pe_int pa_nil)))) pa_nil))))))
    (pss_cons (ps_if (PW.pt (pw_or (pt_not (pt_val (pe_call (ok_law_fixed_right T) (hr.mono (by decide)) rfl T.law_fixed_right.m T.law_fixed_right.F.kp T.law_fixed_right.b .nil pass0 (pa_cons (pv 5) pa_nil)))) (pw_or1 (pt_not (pt_val (pe_call (ok_law_rests_right T) (hr.mono (by decide)) rfl T.law_rests_right.m T.law_rests_right.F.kp T.law_rests_right.b .nil pass0 (pa_cons (pv 2) (pa_cons (pv 11) (pa_cons (pv 10) pa_nil))))))))) (pss_one (ps_ret pe_bl)) pss_nil)
    (pss_cut (ps_if (PW.pt (pw_and (pt_cmpR op_eq (pv 7) pe_int (nomark _)) (pw_and1 (pt_not (pt_val (pe_call (ok_law_small_right T) (hr.mono (by decide)) rfl T.law_small_right.m T.law_small_right.F.kp T.law_small_right.b .nil pass0 (pa_cons (pv 2) (pa_cons (pe_slice (kslL K) (pv 11) po_none (po_some pe_int)) pa_nil)))))))) (pss_one (ps_ret pe_bl)) pss_nil)
    (pss_cons (ps_set (i := 12) sc_law.nd rfl (Or.inl rfl) (pe_call (ok_law_full T) (hr.mono (by decide)) rfl T.law_full.m T.law_full.F.kp T.law_full.b .nil pass0 (pa_cons (pv 2) (pa_cons (pv 10) (pa_cons (pe_op op_sub pe_int (pe_op op_mul (pe_callB (call_max2 rfl) (by rfl) T.z_max (by decide +kernel) (pa_cons pe_int (pa_cons (pe_op op_sub (pv 6) pe_int) pa_nil))) (pe_op op_fdiv (pv 5) pe_int))) pa_nil)))))
    (pss_cons (ps_set (i := 13) sc_law.nd rfl (Or.inl rfl) (pe_op op_mod (pe_callTy call_int1 (by rfl) T.z_int (by decide +kernel) (pa_cons (pe_op op_add (pv 6) (pe_op op_mul pe_int (pv 5))) pa_nil)) (pe_callB (klen K) (by rfl) T.z_len (by decide +kernel) (pa_cons (pv 12) pa_nil))))
    (pss_cons (ps_for PassesOwn.never rfl (kpil K (pe_lst (pa_cons (pv 12) (pa_cons (pe_op op_cat (pe_op op_cat (pe_slice (kslL K) (pv 12) po_none (po_some (pv 13))) (pe_lst (pa_cons (pe_op op_add (pe_ix (kixl K) (pv 12) (pv 13) (fun _ _ => rfl)) pe_int) pa_nil))) (pe_slice (kslL K) (pv 12) (po_some (pe_op op_add (pv 13) pe_int)) po_none)) pa_nil)))) (pg_name (i := 14) sc_law.nd rfl (Or.inl rfl)) (pss_one (ps_if (pt_not (pt_val (pe_call (ok_law_rests_right T) (hr.mono (by decide)) rfl T.law_rests_right.m T.law_rests_right.F.kp T.law_rests_right.b .nil pass0 (pa_cons (pv 2) (pa_cons (pv 14) (pa_cons (pv 10) pa_nil)))))) (pss_one (ps_ret pe_bl)) pss_nil)))
    (pss_cut (ps_if (PW.pt (pw_and (pt_cmpR op_gt (pv 4) pe_int (nomark _)) (pw_and1 (pt_cmpR (kneD K hr.units) (pv 11) (pe_lst pa_nil) (nomark _))))) (pss_cons (ps_set (i := 13) sc_law.nd rfl (Or.inl rfl) (pe_op op_mod (pe_callTy call_int1 (by rfl) T.z_int (by decide +kernel) (pa_cons (pe_op op_add (pe_op op_mul (pv 6) pe_int) (pv 4)) pa_nil)) (pe_callB (klen K) (by rfl) T.z_len (by decide +kernel) (pa_cons (pv 11) pa_nil))))
    (pss_one (ps_asg (pe_ix (kixl K) (pe_lst (pa_cons (pe_op op_add (pe_ix (kixl K) (pv 11) (pv 13) (fun _ _ => rfl)) pe_int) (pa_cons (pe_op op_add (pe_ix (kixl K) (pv 11) (pv 13) (fun _ _ => rfl)) pe_int) (pa_cons (pe_op op_mul pe_int (pe_ix (kixl K) (pv 11) (pv 13) (fun _ _ => rfl))) (pa_cons (pe_op op_add pe_int (pe_op op_fdiv (pe_ix (kixl K) (pv 11) (pv 13) (fun _ _ => rfl)) pe_int)) (pa_cons (pe_op op_pow pe_int pe_int) (pa_cons (pe_op op_add (pe_ix (kixl K) (pv 11) (pv 13) (fun _ _ => rfl)) pe_int) pa_nil))))))) (pv 6) (fun _ _ => rfl)) (pg_sub (pv 11) (pv 13) set_list)))) pss_nil)
    (pss_one (ps_if (pt_not (pt_val (pe_call (ok_law_rests_right T) (hr.mono (by decide)) rfl T.law_rests_right.m T.law_rests_right.F.kp T.law_rests_right.b .nil pass0 (pa_cons (pv 2) (pa_cons (pv 11) (pa_cons (pv 10) pa_nil)))))) (pss_one (ps_ret pe_bl)) pss_nil)))))))))))))))
    (pss_one (ps_ret pe_bl))), ?_⟩
  obtain ⟨n, hn, hn0, hn2⟩ : ∃ n : Int, (if (if (ns.length : Int) < 2 then (ns.length : Int) else 2) > 1 then (if (ns.length : Int) < 2 then (ns.length : Int) else 2) else 1) = n ∧ 0 ≤ n ∧ n ≤ 2 := ⟨_, rfl, by split <;> split <;> omega, by split <;> split <;> omega⟩
  refine ⟨_, rfl, _, ns.length, rfl, .inl ⟨_, ha, (List.length_map ..).symm⟩, _, _, rfl, _, _, rfl, n, by rw [← hn], by omega, by omega, for_range (lo := 0) (n := n.toNat) (fun i σ H' => Ex H H' ∧ ∃ v1 v2 v3 v4 v5 v6 v7 v8 v9 v10 v11 v12 v13 v14 : Option V, σ = [some (.ref a), v1, v2, v3, v4, v5, v6, v7, v8, v9, v10, v11, v12, v13, v14]) ⟨Ex.refl _, _, _, _, _, _, _, _, _, _, _, _, _, _, _, rfl⟩ ?_ ?_⟩
  · rintro i σ G hi ⟨eg, v1, v2, v3, v4, v5, v6, v7, v8, v9, v10, v11, v12, v13, v14, rfl⟩
    rw [Int.zero_add]
    refine ⟨_, rfl, _, rfl, a, ns, (i : Int), rfl, ex_l eg ha, by omega, by omega, fun v H1 e1 => ⟨v, rfl, fun b H2 hb e2 B2 => ?_⟩⟩
    refine ⟨_, rfl, b, 8, 900, rfl, by decide, by decide, B2.le (by omega), fun great H3 g0 g1 B3 k3 => ?_⟩
    refine ⟨_, rfl, b, 4, 899, rfl, by decide, by decide, B3, fun spoil H4 s0 s1 B4 k4 => ?_⟩
    refine ⟨_, rfl, b, 26, 898, rfl, by decide, by decide, B4, fun pick H5 p0 p1 B5 k5 => ?_⟩
    refine ⟨_, rfl, b, 6, 897, rfl, by decide, by decide, B5, fun more H6 m0 m1 B6 k6 => ⟨four_le, fun tt htt => ⟨tt, _, rfl, SqT.of upd_same, rfl, _, _, rfl, _, _, rfl, _, _, rfl, _, _, rfl, rfl, ?_⟩⟩⟩
    have e7 := Ex.new (o := .tup [.int great, .int spoil, .int pick, .int more]) htt
    have k27 := (((k3.trans k4).trans k5).trans k6).trans (But.of e7)
    have B7 := B6.ex e7
    generalize upd H6 tt (.tup [.int great, .int spoil, .int pick, .int more]) = H7 at e7 k27 B7 ⊢
    refine ⟨fun σ H' => H' = H7 ∧ ∃ sz : Nat, sz ≤ 2 ∧ σ = [some (.ref a), some (.int (i : Int)), some (.ref b), some (.int great), some (.int spoil), some (.int pick), some (.int more), some (.int (sz : Int)), v8, v9, v10, v11, v12, v13, v14], ?_, ?_⟩
    · have out : ∀ bb : Bool, (fun σ H' => H' = H7 ∧ ∃ sz : Nat, sz ≤ 2 ∧ σ = [some (V.ref a), some (.int (i : Int)), some (.ref b), some (.int great), some (.int spoil), some (.int pick), some (.int more), some (.int (sz : Int)), v8, v9, v10, v11, v12, v13, v14]) [some (.ref a), some (.int (i : Int)), some (.ref b), some (.int great), some (.int spoil), some (.int pick), some (.int more), some (.int (if bb = true then 1 else 0)), v8, v9, v10, v11, v12, v13, v14] H7 := fun bb => ⟨rfl, if bb = true then 1 else 0, by split <;> omega, by cases bb <;> rfl⟩
      refine ⟨_, rfl, rfl, _, rfl, ite2 (fun _ => ⟨_, rfl, rfl, _, rfl, ite2 (fun _ => ⟨rfl, 2, Nat.le_refl _, rfl⟩) (fun _ => ⟨_, rfl, _, _, rfl, rfl, .inr ⟨_, rfl, out _⟩⟩)⟩) (fun _ => iteF ⟨_, rfl, _, _, rfl, rfl, .inr ⟨_, rfl, out _⟩⟩)⟩
    rintro σ H7' ⟨rfl, sz, hsz, rfl⟩
    obtain ⟨MO, hMO, hMO0, hMO24⟩ : ∃ MO : Int, atI [V.int 7, .int 12, .int 24] (sz : Int) = some (.int MO) ∧ 7 ≤ MO ∧ MO ≤ 24 := by
      rcases (by omega : sz = 0 ∨ sz = 1 ∨ sz = 2) with rfl | rfl | rfl
      · exact ⟨7, rfl, by omega, by omega⟩
      · exact ⟨12, rfl, by omega, by omega⟩
      · exact ⟨24, rfl, by omega, by omega⟩
    refine ⟨three_le, fun l1 hl1 => ⟨_, rfl, l1, _, _, .int MO, rfl, rfl, SqL.of upd_same, hMO, ?_⟩⟩
    have e8 := Ex.new (o := .lst [.int 7, .int 12, .int 24]) hl1
    refine ⟨_, rfl, b, 5, 896, rfl, by decide, by decide, B7.ex e8, fun t5 H8 t50 t51 B8 k8 => ?_⟩
    refine ⟨_, rfl, b, 9, 895, rfl, by decide, by decide, B8, fun t9 H9 t90 t91 B9 k9 => ?_⟩
    refine ⟨_, rfl, b, 5, 894, rfl, by decide, by decide, B9, fun t4 H10 t40 t41 B10 k10 => ⟨_, _, rfl, rfl, three_le, fun l2 hl2 => ?_⟩⟩
    obtain ⟨MA, hMA, hMA0, hMA16⟩ : ∃ MA : Int, atI [V.int t5, .int t9, .int (16 - t4)] (sz : Int) = some (.int MA) ∧ 0 ≤ MA ∧ MA ≤ 16 := by
      rcases (by omega : sz = 0 ∨ sz = 1 ∨ sz = 2) with rfl | rfl | rfl
      · exact ⟨t5, rfl, by omega, by omega⟩
      · exact ⟨t9, rfl, by omega, by omega⟩
      · exact ⟨16 - t4, rfl, by omega, by omega⟩
    have e10 := Ex.new (o := .lst [.int t5, .int t9, .int (16 - t4)]) hl2
    refine ⟨_, rfl, l2, _, _, .int MA, rfl, rfl, SqL.of upd_same, hMA, _, _, rfl, ?_⟩
    have k210 := ((((k27.trans (But.of e8)).trans k8).trans k9).trans k10).trans (But.of e10)
    have B10 := B10.ex e10
    generalize upd H10 l2 (.lst [.int t5, .int t9, .int (16 - t4)]) = H10 at e10 k210 B10 ⊢
    refine ⟨24, rfl, by omega, fun rp H11 e11 rr => ?_⟩
    have k211 := k210.trans (But.of e11)
    have B11 := B10.ex e11
    have rr11 : Rd K (fun a => a ≠ b) H11 2 (.ref rp) (list2 (rT 25)) := rr.of fun a h => B10.ne h
    refine ⟨_, rfl, _, rfl, _, rfl, _, rfl, _, rfl, b, 3, 893, rfl, by decide, by decide, B11, fun t3 H12 t30 t31 B12 k12 => ⟨_, _, rfl, rfl, ?_⟩⟩
    obtain ⟨W, hW, hW24⟩ : ∃ W : Nat, MO - t3 = (W : Int) ∧ W ≤ 24 := ⟨(MO - t3).toNat, by omega, by omega⟩
    have rr12 := rr11.but k12 (fun a h => h)
    have k212 := k211.trans k12
    refine ⟨b, rp, 800, W, 2, MA, _, by rw [← hW]; rfl, B12.le (by omega), hW24, hMA0, hMA16, rr12, (fun a h => h), fun rw_ rs H13 hr0 hr1 gr B13 k13 => ?_⟩
    have gR : GoodR rs := goodN_R gr (by omega)
    have rwb : rw_ ≠ b := B12.ne hr0
    refine ⟨_, rfl, pick, rfl, p0, p1, fun H14 e14 => ⟨_, rfl, iteF ?_⟩⟩
    have k1214 := k13.trans (But.of e14)
    refine ⟨_, rfl, _, rfl, _, rfl, b, rw_, rp, 790, 2, rs, _, rfl, (B13.ex e14).le (by omega), e14 _ _ hr1, rwb, gR, rr12.but k1214 (fun a h => h), fun H15 B15 k15 => ⟨_, rfl, iteF ?_⟩⟩
    have k1215 := k1214.trans k15
    have hr15 := k15 _ _ rwb (e14 _ _ hr1)
    refine ⟨fun σ G => BoxAt G b 770 ∧ But b H15 G ∧ σ = [some (.ref a), some (.int (i : Int)), some (.ref b), some (.int great), some (.int spoil), some (.int pick), some (.int more), some (.int (sz : Int)), some (.int MO), some (.int MA), some (.ref rp), some (.ref rw_), v12, v13, v14], ?_, ?_⟩
    · refine ⟨_, rfl, rfl, _, rfl, ite2 (fun c => ?_) (fun c => iteF ⟨B15.le (by omega), But.of (Ex.refl _), rfl⟩)⟩
      refine ⟨_, rfl, _, rfl, 3, rfl, rw_, _, rfl, SqL.of hr15, fun c3 hc3 => ?_⟩
      have ec := Ex.new (o := .lst (cutV (rs.map V.int) none (some 3))) hc3
      refine ⟨b, c3, 770, rs.take 3, rfl, (B15.ex ec).le (by omega), (by rw [upd_same, show (3 : Int) = ((3 : Nat) : Int) from rfl, cutV_take, List.map_take]), B15.ne hc3, goodR_take gR, by rw [List.length_take]; omega, fun H17 B17 k17 => ⟨_, rfl, iteF ⟨B17, (But.of ec).trans k17, rfl⟩⟩⟩
    rintro σ G1 ⟨Bg1, kg1, rfl⟩
    have k1g := k1215.trans kg1
    obtain ⟨D, hD, hD0, hD8⟩ : ∃ D : Int, pick / 3 = D ∧ 0 ≤ D ∧ D ≤ 8 := ⟨_, rfl, by omega, by omega⟩
    obtain ⟨M, hM, hM02⟩ : ∃ M : Int, (if more - 3 > 0 then more - 3 else 0) = M ∧ (M = 0 ∨ M = 1 ∨ M = 2) := ⟨_, rfl, by split <;> omega⟩
    obtain ⟨W2, hW2, hW20, hW224⟩ : ∃ W2 : Nat, 24 - M * D = (W2 : Int) ∧ 1 ≤ W2 ∧ W2 ≤ 24 := by
      rcases hM02 with h | h | h <;> rw [h]
      · exact ⟨24, by omega, by omega, by omega⟩
      · exact ⟨(24 - D).toNat, by omega, by omega, by omega⟩
      · exact ⟨(24 - 2 * D).toNat, by omega, by omega, by omega⟩
    have hMb : -(2 ^ 64) < M ∧ M < 2 ^ 64 := by omega
    refine ⟨_, rfl, _, rfl, _, rfl, _, _, rfl, rfl, _, _, rfl, _, rfl, _, _, rfl, rfl, ⟨by decide, by decide⟩, _, _, rfl, rfl, .inl (by rw [hM]; exact hMb), _, _, rfl, rfl, ?_⟩
    refine ⟨b, rp, 750, W2, 2, _, by rw [← hW2, ← hM, ← hD]; rfl, Bg1.le (by omega), hW20, hW224, rr12.but k1g (fun a h => h), (fun a h => h), fun fp fs G2 hf0 hf1 gf fl1 Bg2 kg2 => ?_⟩
    have fpb : fp ≠ b := Bg1.ne hf0
    have gF : GoodR fs := goodN_R gf (by omega)
    have fl16 := gF.1
    have k1g2 := k1g.trans kg2
    refine ⟨_, rfl, _, rfl, _, _, rfl, rfl, .inl (by decide), _, _, rfl, rfl, .inl ⟨_, rfl, _, rfl, _, fs.length, rfl, .inl ⟨_, SqL.of hf1, (List.length_map ..).symm⟩, _, _, rfl, rfl, (by show (0 : Int) < (fs.length : Int); omega), ?_⟩⟩
    obtain ⟨At, hAt, hAl⟩ : ∃ At : Nat, (more + 5 * pick) % (fs.length : Int) = (At : Int) ∧ At < fs.length := by
      have h1 := Int.emod_nonneg (more + 5 * pick) (show (fs.length : Int) ≠ 0 by omega)
      have h2 := Int.emod_lt_of_pos (more + 5 * pick) (show (0 : Int) < (fs.length : Int) by omega)
      exact ⟨((more + 5 * pick) % (fs.length : Int)).toNat, by omega, by omega⟩
    refine gnv (v' := .int (At : Int)) (congrArg V.int hAt) ?_
    obtain ⟨y, hy⟩ : ∃ y, fs[At]? = some y := ⟨_, List.getElem?_eq_getElem hAl⟩
    have hyV : (fs.map V.int)[At]? = some (.int y) := by rw [List.getElem?_map, hy]; rfl
    have gy := gf.2 y (List.mem_of_getElem? hy)
    have em := el_mid (K := K) (σ := [some (.ref a), some (.int (i : Int)), some (.ref b), some (.int great), some (.int spoil), some (.int pick), some (.int more), some (.int (sz : Int)), some (.int MO), some (.int MA), some (.ref rp), some (.ref rw_), some (.ref fp), some (.int (At : Int)), v14]) (H := G2)
      (ta := tVar 12) (te := tVar 13) (tf := tOp (rI0 fun i j => V.int (i + j)) (tOp (rIxL K) (tVar 12) (tVar 13)) (tC (V.int 1))) (tg := tOp (rI0 fun i j => V.int (i + j)) (tVar 13) (tC (V.int 1))) (i := (At : Int)) (j := ((At + 1 : Nat) : Int)) (x := .int (y + 1)) (ev_var rfl) (SqL.of hf1) (ev_var rfl)
      (ev_op (ev_op (ev_var rfl) (ev_var rfl) (rv_ixL (SqL.of hf1) (atI_nat hyV))) ev_c rv_I0) (by rw [show ((At + 1 : Nat) : Int) = (At : Int) + 1 by omega]; exact ev_op (ev_var rfl) ev_c rv_I0) (by rw [List.length_map]; omega)
    rw [ints_mid (by omega)] at em
    refine ⟨_, rfl, em G2 (Ex.refl _) _ fun fp2 G3 hp2 eg3 hf2 => ⟨two_le, fun L hL => ?_⟩⟩
    have eL := Ex.new (o := .lst [.ref fp, .ref fp2]) hL
    have g2R : GoodR (fs.take At ++ [y + 1] ++ fs.drop (At + 1)) := ⟨by rw [List.length_append, List.length_append, List.length_take, List.length_drop, List.length_singleton]; omega, goodR_app (goodR_app (goodR_take gF).2 (fun z hz => by rw [List.mem_singleton] at hz; omega)) (drop_good gF).2⟩
    have hL4 := upd_same (H := G3) (a := L) (o := .lst [.ref fp, .ref fp2])
    have hf14 := eL _ _ (eg3 _ _ hf1)
    have hf24 := eL _ _ hf2
    have Bg4 := (Bg2.ex eg3).ex eL
    have k1g4 := (k1g2.trans (But.of eg3)).trans (But.of eL)
    have fp2b : fp2 ≠ b := Bg2.ne hp2
    have Lb : L ≠ b := (Bg2.ex eg3).ne hL
    have hr4 : upd G3 L (.lst [.ref fp, .ref fp2]) rw_ = some (.lst (rs.map V.int)) := eL _ _ (eg3 _ _ (kg2 _ _ rwb (kg1 _ _ rwb hr15)))
    generalize fs.take At ++ [y + 1] ++ fs.drop (At + 1) = fs2 at g2R hf24
    generalize upd G3 L (.lst [.ref fp, .ref fp2]) = G4 at hL4 hf14 hf24 Bg4 k1g4 hr4 ⊢
    refine ⟨L, rfl, ⟨_, SqL.of hL4⟩, for_list (xs := [.ref fp, .ref fp2]) (fun j σ G => BoxAt G b (700 - 4 * j) ∧ But b G4 G ∧ ∃ v14 : Option V, σ = [some (.ref a), some (.int (i : Int)), some (.ref b), some (.int great), some (.int spoil), some (.int pick), some (.int more), some (.int (sz : Int)), some (.int MO), some (.int MA), some (.ref rp), some (.ref rw_), some (.ref fp), some (.int (At : Int)), v14])
      ⟨Bg4.le (by omega), But.of (Ex.refl _), _, rfl⟩ (fun j σ G _ p => SqL.of (p.2.1 _ _ Lb hL4)) ?_ ?_⟩
    · rintro j v σ G5 hj ⟨B5', k5', u14, rfl⟩
      have hj2 : j < 2 := (List.getElem?_eq_some_iff.mp hj).1
      obtain ⟨o, os, rfl, ho, ob, go⟩ : ∃ (o : Addr) (os : List Int), v = .ref o ∧ G5 o = some (.lst (os.map V.int)) ∧ o ≠ b ∧ GoodR os := by
        match j, hj2, hj with
        | 0, _, hj => cases hj; exact ⟨fp, fs, rfl, k5' _ _ fpb hf14, fpb, gF⟩
        | 1, _, hj => cases hj; exact ⟨fp2, fs2, rfl, k5' _ _ fp2b hf24, fp2b, g2R⟩
      exact ⟨_, rfl, _, rfl, _, rfl, b, o, rp, 700 - 4 * (j + 1), 2, os, _, rfl, B5'.le (by omega), ho, ob, go, rr12.but (k1g4.trans k5') (fun a h => h), fun G6 B6' k6' => ⟨_, rfl, iteF ⟨B6', k5'.trans k6', _, rfl⟩⟩⟩
    · rintro σ G5 ⟨B5', k5', u14, rfl⟩
      have B5' : BoxAt G5 b 600 := B5'.le (by show 600 ≤ 700 - 4 * 2; omega)
      have kb5 := k1g4.trans k5'
      have hr5 := k5' _ _ rwb hr4
      refine ⟨fun σ G => BoxAt G b 600 ∧ But b H12 G ∧ ∃ (ms : List Int) (v13 : Option V), G rw_ = some (.lst (ms.map V.int)) ∧ GoodR ms ∧ σ = [some (.ref a), some (.int (i : Int)), some (.ref b), some (.int great), some (.int spoil), some (.int pick), some (.int more), some (.int (sz : Int)), some (.int MO), some (.int MA), some (.ref rp), some (.ref rw_), some (.ref fp), v13, u14], ?_, ?_⟩
      · refine ⟨_, rfl, _, _, rfl, rfl, _, rfl, ite2 (fun _ => ?_) (fun _ => iteF ⟨B5', kb5, rs, _, hr5, gR, rfl⟩)⟩
        refine ⟨_, rfl, Nat.zero_le _, fun z hz => ?_⟩
        have ez := Ex.new (o := .lst []) hz
        have hr6 := ez _ _ hr5
        have rdw : Rd K (fun _ => True) (upd G5 z (.lst [])) 1 (.ref rw_) (.list (rs.map PyData.int)) := rd_ilist hr6 trivial (by have := gR.1; omega)
        have rde : Rd K (fun _ => True) (upd G5 z (.lst [])) 1 (.ref z) (.list []) := .lst upd_same trivial rfl (Nat.zero_le _) (fun i x d hx _ => by cases hx)
        refine ⟨_, _, rdw.dp, rde.dp, rdw.shaped (by omega), rde.shaped (by omega), _, rfl, ?_⟩
        have B6' := B5'.ex ez
        have kb6 := kb5.trans (But.of ez)
        generalize upd G5 z (.lst []) = G6 at hr6 B6' kb6 ⊢
        cases rs with
        | nil => exact iteF ⟨B6', kb6, [], _, hr6, gR, rfl⟩
        | cons x r =>
        refine iteT ?_
        have rl16 := gR.1
        have rl1 : 1 ≤ (x :: r).length := Nat.succ_le_succ (Nat.zero_le _)
        generalize x :: r = rs at hr6 gr gR rl16 rl1
        refine ⟨_, rfl, _, _, rfl, rfl, .inl (by omega), _, rfl, _, _, rfl, rfl, .inl ⟨_, rfl, _, rfl, _, rs.length, rfl, .inl ⟨_, SqL.of hr6, (List.length_map ..).symm⟩, _, _, rfl, rfl, (by show (0 : Int) < (rs.length : Int); omega), ?_⟩⟩
        obtain ⟨A2, hA2, hA2l⟩ : ∃ At : Nat, (more * 7 + spoil) % (rs.length : Int) = (At : Int) ∧ At < rs.length := by
          have h1 := Int.emod_nonneg (more * 7 + spoil) (show (rs.length : Int) ≠ 0 by omega)
          have h2 := Int.emod_lt_of_pos (more * 7 + spoil) (show (0 : Int) < (rs.length : Int) by omega)
          exact ⟨((more * 7 + spoil) % (rs.length : Int)).toNat, by omega, by omega⟩
        refine gnv (v' := .int (A2 : Int)) (congrArg V.int hA2) ?_
        obtain ⟨u, hu⟩ : ∃ u, rs[A2]? = some u := ⟨_, List.getElem?_eq_getElem hA2l⟩
        have huV : atI (rs.map V.int) (A2 : Int) = some (.int u) := atI_nat (by rw [List.getElem?_map, hu]; rfl)
        have gu := gr.2 u (List.mem_of_getElem? hu)
        obtain ⟨x, hx, hx2⟩ := at_get (xs := [u + 1, u + 1, 2 * u, 1 + u / 2, 10 ^ (50 : Int).toNat, u + 1].map V.int) m0 (by show more < 6; omega)
        obtain ⟨nu, hnu, rfl⟩ := ints_get hx2
        have hum := List.mem_of_getElem? hnu
        have hnr : 1 ≤ nu ∧ nu ≤ 100000000000000000000000000000000000000000000000000 := by
          simp only [List.mem_cons, List.not_mem_nil, or_false] at hum
          rcases hum with h | h | h | h | h | h <;> rw [h]
          · omega
          · omega
          · omega
          · omega
          · decide
          · omega
        refine ⟨_, rfl, _, rfl, rw_, _, _, .int u, rfl, rfl, SqL.of hr6, huV, _, _, rfl, rfl, ?_⟩
        refine ⟨_, rfl, _, rfl, rw_, _, _, .int u, rfl, rfl, SqL.of hr6, huV, _, _, rfl, rfl, ?_⟩
        refine ⟨_, rfl, _, rfl, rw_, _, _, .int u, rfl, rfl, SqL.of hr6, huV, _, _, rfl, rfl, .inl (by decide), ?_⟩
        refine ⟨_, rfl, _, rfl, rw_, _, _, .int u, rfl, rfl, SqL.of hr6, huV, _, _, rfl, rfl, ⟨by decide, by decide⟩, _, _, rfl, rfl, ?_⟩
        refine ⟨_, _, rfl, rfl, ⟨by decide, by decide, by decide⟩, ?_⟩
        refine ⟨_, rfl, _, rfl, rw_, _, _, .int u, rfl, rfl, SqL.of hr6, huV, _, _, rfl, rfl, six_le, fun l hl => ?_⟩
        have el := Ex.new (o := .lst ([u + 1, u + 1, 2 * u, 1 + u / 2, 10 ^ (50 : Int).toNat, u + 1].map V.int)) hl
        refine ⟨_, rfl, l, _, more, .int nu, rfl, rfl, SqL.of upd_same, hx, _, rfl, _, rfl, rw_, _, _, A2, rfl, rfl, el _ _ hr6, by rw [List.length_map, ixN_int (by omega) (by omega), Int.toNat_natCast], ?_⟩
        refine ⟨box_mut (B6'.ex el) rwb, butMut (kb6.trans (But.of el)) hr0, rs.set A2 nu, _, by rw [upd_same, List.map_set], ⟨by rw [List.length_set]; exact rl16, fun z hz => ?_⟩, rfl⟩
        rcases List.mem_or_eq_of_mem_set hz with h | h
        · exact gR.2 z h
        · rw [h]; exact hnr
      rintro σ G8 ⟨B8', kb8, ms, u13, hm, gm, rfl⟩
      refine ⟨_, rfl, _, rfl, _, rfl, b, rw_, rp, 500, 2, ms, _, rfl, B8'.le (by omega), hm, rwb, gm, rr12.but kb8 (fun a h => h), fun G9 B9' k9' => ⟨_, rfl, iteF ?_⟩⟩
      exact ⟨(eg.trans e1).trans (ex_but hb ((But.of e2).trans ((k212.trans kb8).trans k9'))), _, _, _, _, _, _, _, _, _, _, _, _, _, _, rfl⟩
  · rintro σ G ⟨eg, v1, v2, v3, v4, v5, v6, v7, v8, v9, v10, v11, v12, v13, v14, rfl⟩
    exact q _
end
end L2.U


set_option Elab.async false
set_option linter.all false
set_option maxRecDepth 100000
set_option maxHeartbeats 4000000
namespace L2.U
open PySem PySem.Spec PyProof.Rows Evl
theorem exm_of {K : PySem.W.Frag} {C D : Addr} {b : Bool} (h1 : PySem.W.subIn K (.ref D) (.type "BaseException") = some true) (h2 : PySem.W.isClsIn K D = true) (h3 : PySem.W.typeIn K (.ref D) = some (.type "type"))
    (h4 : PySem.W.subIn K (.ref C) (.ref D) = some b) : PySem.W.exmOne K (.ref C) (.ref D) = some b := by
  have h2' : (PySem.W.clsIn K D).isSome = true := h2
  unfold PySem.W.exmOne
  rw [h1, if_pos (by rfl)]
  unfold PySem.W.kitCls
  simp only [h2', h3, h4, beq_self_eq_true, Bool.and_self, if_true]
def mkDef {K : PySem.W.Frag} {h : Heap} {mg : Str → Option Value} (X : K.In h) (G : h.Ns mainGlobals mg) {x : Str} {st : Stmt} {ps : List Str} {f : Addr} {od an : Option Addr} {sl : Array (Option Value)} {oc kV dc pm cd ct : Value}
    (a : PySem.W.nsIn K mainGlobals x = some (some (.ref f))) (l : K.lookup f = some ⟨oc, od, .func (PySem.W.fnOf x x (defArgs st) (defBody st) (defScope st) .none kV dc pm an cd ct), sl⟩) (c : PySem.W.codeIn K cd x = true) (k : PySem.W.keepIn K (.ref f) = true)
    (h2 : ∀ (kV doc pm : Value) (an : Option Addr) (cdv ct : Value) (us : List Value), us.length = ps.length → bindArgs (PySem.W.fnOf x x (defArgs st) (defBody st) (defScope st) .none kV doc pm an cdv ct) ⟨us, []⟩ = pure (ps.zip us)) : DefAt K mg x st ps :=
  ⟨f, _, fun_mk (st := st) l c k, PySem.W.mg_of X G a, (fun_mk (st := st) l c k).binds h2⟩

theorem all_mk {l : PySem.W.OpenLaw} {w : World} {K : PySem.W.Frag} {h : Heap} {mg : Str → Option Value} {fa : Addr} (X : K.In h) (G : h.Ns mainGlobals mg) (hfa : mg "law" = some (.ref fa))
    {f1 : Addr} {od1 an1 : Option Addr} {sl1 : Array (Option Value)} {oc1 kV1 dc1 pm1 cd1 ct1 : Value}
    {f2 : Addr} {od2 an2 : Option Addr} {sl2 : Array (Option Value)} {oc2 kV2 dc2 pm2 cd2 ct2 : Value}
    {f3 : Addr} {od3 an3 : Option Addr} {sl3 : Array (Option Value)} {oc3 kV3 dc3 pm3 cd3 ct3 : Value}
    {f4 : Addr} {od4 an4 : Option Addr} {sl4 : Array (Option Value)} {oc4 kV4 dc4 pm4 cd4 ct4 : Value}
    {f5 : Addr} {od5 an5 : Option Addr} {sl5 : Array (Option Value)} {oc5 kV5 dc5 pm5 cd5 ct5 : Value}
    {f6 : Addr} {od6 an6 : Option Addr} {sl6 : Array (Option Value)} {oc6 kV6 dc6 pm6 cd6 ct6 : Value}
    {f7 : Addr} {od7 an7 : Option Addr} {sl7 : Array (Option Value)} {oc7 kV7 dc7 pm7 cd7 ct7 : Value}
    {f8 : Addr} {od8 an8 : Option Addr} {sl8 : Array (Option Value)} {oc8 kV8 dc8 pm8 cd8 ct8 : Value}
    {f9 : Addr} {od9 an9 : Option Addr} {sl9 : Array (Option Value)} {oc9 kV9 dc9 pm9 cd9 ct9 : Value}
    {f10 : Addr} {od10 an10 : Option Addr} {sl10 : Array (Option Value)} {oc10 kV10 dc10 pm10 cd10 ct10 : Value}
    {f11 : Addr} {od11 an11 : Option Addr} {sl11 : Array (Option Value)} {oc11 kV11 dc11 pm11 cd11 ct11 : Value}
    {f12 : Addr} {od12 an12 : Option Addr} {sl12 : Array (Option Value)} {oc12 kV12 dc12 pm12 cd12 ct12 : Value}
    {f13 : Addr} {od13 an13 : Option Addr} {sl13 : Array (Option Value)} {oc13 kV13 dc13 pm13 cd13 ct13 : Value}
    {f14 : Addr} {od14 an14 : Option Addr} {sl14 : Array (Option Value)} {oc14 kV14 dc14 pm14 cd14 ct14 : Value}
    {f15 : Addr} {od15 an15 : Option Addr} {sl15 : Array (Option Value)} {oc15 kV15 dc15 pm15 cd15 ct15 : Value}
    {f16 : Addr} {od16 an16 : Option Addr} {sl16 : Array (Option Value)} {oc16 kV16 dc16 pm16 cd16 ct16 : Value}
    {f17 : Addr} {od17 an17 : Option Addr} {sl17 : Array (Option Value)} {oc17 kV17 dc17 pm17 cd17 ct17 : Value}
    {f18 : Addr} {od18 an18 : Option Addr} {sl18 : Array (Option Value)} {oc18 kV18 dc18 pm18 cd18 ct18 : Value}
    {f19 : Addr} {od19 an19 : Option Addr} {sl19 : Array (Option Value)} {oc19 kV19 dc19 pm19 cd19 ct19 : Value}
    {f20 : Addr} {od20 an20 : Option Addr} {sl20 : Array (Option Value)} {oc20 kV20 dc20 pm20 cd20 ct20 : Value}
    {f21 : Addr} {od21 an21 : Option Addr} {sl21 : Array (Option Value)} {oc21 kV21 dc21 pm21 cd21 ct21 : Value}
    {f22 : Addr} {od22 an22 : Option Addr} {sl22 : Array (Option Value)} {oc22 kV22 dc22 pm22 cd22 ct22 : Value}
    {f23 : Addr} {od23 an23 : Option Addr} {sl23 : Array (Option Value)} {oc23 kV23 dc23 pm23 cd23 ct23 : Value}
    {f24 : Addr} {od24 an24 : Option Addr} {sl24 : Array (Option Value)} {oc24 kV24 dc24 pm24 cd24 ct24 : Value}
    {f25 : Addr} {od25 an25 : Option Addr} {sl25 : Array (Option Value)} {oc25 kV25 dc25 pm25 cd25 ct25 : Value}
    {f26 : Addr} {od26 an26 : Option Addr} {sl26 : Array (Option Value)} {oc26 kV26 dc26 pm26 cd26 ct26 : Value}
    {f27 : Addr} {od27 an27 : Option Addr} {sl27 : Array (Option Value)} {oc27 kV27 dc27 pm27 cd27 ct27 : Value}
    {f28 : Addr} {od28 an28 : Option Addr} {sl28 : Array (Option Value)} {oc28 kV28 dc28 pm28 cd28 ct28 : Value}
    {f29 : Addr} {od29 an29 : Option Addr} {sl29 : Array (Option Value)} {oc29 kV29 dc29 pm29 cd29 ct29 : Value}
    {f30 : Addr} {od30 an30 : Option Addr} {sl30 : Array (Option Value)} {oc30 kV30 dc30 pm30 cd30 ct30 : Value}
    {f31 : Addr} {od31 an31 : Option Addr} {sl31 : Array (Option Value)} {oc31 kV31 dc31 pm31 cd31 ct31 : Value}
    {f32 : Addr} {od32 an32 : Option Addr} {sl32 : Array (Option Value)} {oc32 kV32 dc32 pm32 cd32 ct32 : Value}
    {t_MOST_NUMBERS : Tok}
    {t_GREATEST : Tok}
    {t_MOST_WIRES : Tok}
    {CT : Addr}
    {CInvalidRow NInvalidRow fIInvalidRow : Addr} {nmInvalidRow qInvalidRow : Str} {bsInvalidRow : List Value} {snInvalidRow : List Str} {subInvalidRow : List Value} {abInvalidRow : Bool} {colInvalidRow : Option Bool} {ddInvalidRow : Option Addr} {m0InvalidRow m1InvalidRow m2InvalidRow m3InvalidRow m5InvalidRow : Option Value}
    {odInvalidRow anInvalidRow : Option Addr} {slInvalidRow : Array (Option Value)} {ocInvalidRow kVInvalidRow dcInvalidRow pmInvalidRow cdInvalidRow ctInvalidRow : Value}
    {CInvalidWires NInvalidWires fIInvalidWires : Addr} {nmInvalidWires qInvalidWires : Str} {bsInvalidWires : List Value} {snInvalidWires : List Str} {subInvalidWires : List Value} {abInvalidWires : Bool} {colInvalidWires : Option Bool} {ddInvalidWires : Option Addr} {m0InvalidWires m1InvalidWires m2InvalidWires m3InvalidWires m5InvalidWires : Option Value}
    {odInvalidWires anInvalidWires : Option Addr} {slInvalidWires : Array (Option Value)} {ocInvalidWires kVInvalidWires dcInvalidWires pmInvalidWires cdInvalidWires ctInvalidWires : Value}
    (a1 : PySem.W.nsIn K mainGlobals "is_integer" = some (some (.ref f1)))
    (l1 : K.lookup f1 = some ⟨oc1, od1, .func (PySem.W.fnOf "is_integer" "is_integer" (defArgs s_is_integer) (defBody s_is_integer) (defScope s_is_integer) .none kV1 dc1 pm1 an1 cd1 ct1), sl1⟩)
    (c1 : PySem.W.codeIn K cd1 "is_integer" = true)
    (k1 : PySem.W.keepIn K (.ref f1) = true)
    (a2 : PySem.W.nsIn K mainGlobals "is_between" = some (some (.ref f2)))
    (l2 : K.lookup f2 = some ⟨oc2, od2, .func (PySem.W.fnOf "is_between" "is_between" (defArgs s_is_between) (defBody s_is_between) (defScope s_is_between) .none kV2 dc2 pm2 an2 cd2 ct2), sl2⟩)
    (c2 : PySem.W.codeIn K cd2 "is_between" = true)
    (k2 : PySem.W.keepIn K (.ref f2) = true)
    (a3 : PySem.W.nsIn K mainGlobals "is_list" = some (some (.ref f3)))
    (l3 : K.lookup f3 = some ⟨oc3, od3, .func (PySem.W.fnOf "is_list" "is_list" (defArgs s_is_list) (defBody s_is_list) (defScope s_is_list) .none kV3 dc3 pm3 an3 cd3 ct3), sl3⟩)
    (c3 : PySem.W.codeIn K cd3 "is_list" = true)
    (k3 : PySem.W.keepIn K (.ref f3) = true)
    (a4 : PySem.W.nsIn K mainGlobals "are_between" = some (some (.ref f4)))
    (l4 : K.lookup f4 = some ⟨oc4, od4, .func (PySem.W.fnOf "are_between" "are_between" (defArgs s_are_between) (defBody s_are_between) (defScope s_are_between) .none kV4 dc4 pm4 an4 cd4 ct4), sl4⟩)
    (c4 : PySem.W.codeIn K cd4 "are_between" = true)
    (k4 : PySem.W.keepIn K (.ref f4) = true)
    (a5 : PySem.W.nsIn K mainGlobals "is_row" = some (some (.ref f5)))
    (l5 : K.lookup f5 = some ⟨oc5, od5, .func (PySem.W.fnOf "is_row" "is_row" (defArgs s_is_row) (defBody s_is_row) (defScope s_is_row) .none kV5 dc5 pm5 an5 cd5 ct5), sl5⟩)
    (c5 : PySem.W.codeIn K cd5 "is_row" = true)
    (k5 : PySem.W.keepIn K (.ref f5) = true)
    (a6 : PySem.W.nsIn K mainGlobals "can_raise" = some (some (.ref f6)))
    (l6 : K.lookup f6 = some ⟨oc6, od6, .func (PySem.W.fnOf "can_raise" "can_raise" (defArgs s_can_raise) (defBody s_can_raise) (defScope s_can_raise) .none kV6 dc6 pm6 an6 cd6 ct6), sl6⟩)
    (c6 : PySem.W.codeIn K cd6 "can_raise" = true)
    (k6 : PySem.W.keepIn K (.ref f6) = true)
    (a7 : PySem.W.nsIn K mainGlobals "raise_plan" = some (some (.ref f7)))
    (l7 : K.lookup f7 = some ⟨oc7, od7, .func (PySem.W.fnOf "raise_plan" "raise_plan" (defArgs s_raise_plan) (defBody s_raise_plan) (defScope s_raise_plan) .none kV7 dc7 pm7 an7 cd7 ct7), sl7⟩)
    (c7 : PySem.W.codeIn K cd7 "raise_plan" = true)
    (k7 : PySem.W.keepIn K (.ref f7) = true)
    (a8 : PySem.W.nsIn K mainGlobals "leasts" = some (some (.ref f8)))
    (l8 : K.lookup f8 = some ⟨oc8, od8, .func (PySem.W.fnOf "leasts" "leasts" (defArgs s_leasts) (defBody s_leasts) (defScope s_leasts) .none kV8 dc8 pm8 an8 cd8 ct8), sl8⟩)
    (c8 : PySem.W.codeIn K cd8 "leasts" = true)
    (k8 : PySem.W.keepIn K (.ref f8) = true)
    (a9 : PySem.W.nsIn K mainGlobals "_least" = some (some (.ref f9)))
    (l9 : K.lookup f9 = some ⟨oc9, od9, .func (PySem.W.fnOf "_least" "_least" (defArgs s_least) (defBody s_least) (defScope s_least) .none kV9 dc9 pm9 an9 cd9 ct9), sl9⟩)
    (c9 : PySem.W.codeIn K cd9 "_least" = true)
    (k9 : PySem.W.keepIn K (.ref f9) = true)
    (a10 : PySem.W.nsIn K mainGlobals "most_rest" = some (some (.ref f10)))
    (l10 : K.lookup f10 = some ⟨oc10, od10, .func (PySem.W.fnOf "most_rest" "most_rest" (defArgs s_most_rest) (defBody s_most_rest) (defScope s_most_rest) .none kV10 dc10 pm10 an10 cd10 ct10), sl10⟩)
    (c10 : PySem.W.codeIn K cd10 "most_rest" = true)
    (k10 : PySem.W.keepIn K (.ref f10) = true)
    (a11 : PySem.W.nsIn K mainGlobals "most_told" = some (some (.ref f11)))
    (l11 : K.lookup f11 = some ⟨oc11, od11, .func (PySem.W.fnOf "most_told" "most_told" (defArgs s_most_told) (defBody s_most_told) (defScope s_most_told) .none kV11 dc11 pm11 an11 cd11 ct11), sl11⟩)
    (c11 : PySem.W.codeIn K cd11 "most_told" = true)
    (k11 : PySem.W.keepIn K (.ref f11) = true)
    (a12 : PySem.W.nsIn K mainGlobals "_best" = some (some (.ref f12)))
    (l12 : K.lookup f12 = some ⟨oc12, od12, .func (PySem.W.fnOf "_best" "_best" (defArgs s_best) (defBody s_best) (defScope s_best) .none kV12 dc12 pm12 an12 cd12 ct12), sl12⟩)
    (c12 : PySem.W.codeIn K cd12 "_best" = true)
    (k12 : PySem.W.keepIn K (.ref f12) = true)
    (a13 : PySem.W.nsIn K mainGlobals "check_row_and_wires" = some (some (.ref f13)))
    (l13 : K.lookup f13 = some ⟨oc13, od13, .func (PySem.W.fnOf "check_row_and_wires" "check_row_and_wires" (defArgs s_check_row_and_wires) (defBody s_check_row_and_wires) (defScope s_check_row_and_wires) .none kV13 dc13 pm13 an13 cd13 ct13), sl13⟩)
    (c13 : PySem.W.codeIn K cd13 "check_row_and_wires" = true)
    (k13 : PySem.W.keepIn K (.ref f13) = true)
    (a14 : PySem.W.nsIn K mainGlobals "_check_row" = some (some (.ref f14)))
    (l14 : K.lookup f14 = some ⟨oc14, od14, .func (PySem.W.fnOf "_check_row" "_check_row" (defArgs s_check_row) (defBody s_check_row) (defScope s_check_row) .none kV14 dc14 pm14 an14 cd14 ct14), sl14⟩)
    (c14 : PySem.W.codeIn K cd14 "_check_row" = true)
    (k14 : PySem.W.keepIn K (.ref f14) = true)
    (a15 : PySem.W.nsIn K mainGlobals "_check_wires" = some (some (.ref f15)))
    (l15 : K.lookup f15 = some ⟨oc15, od15, .func (PySem.W.fnOf "_check_wires" "_check_wires" (defArgs s_check_wires) (defBody s_check_wires) (defScope s_check_wires) .none kV15 dc15 pm15 an15 cd15 ct15), sl15⟩)
    (c15 : PySem.W.codeIn K cd15 "_check_wires" = true)
    (k15 : PySem.W.keepIn K (.ref f15) = true)
    (a16 : PySem.W.nsIn K mainGlobals "_law_cell" = some (some (.ref f16)))
    (l16 : K.lookup f16 = some ⟨oc16, od16, .func (PySem.W.fnOf "_law_cell" "_law_cell" (defArgs s_law_cell) (defBody s_law_cell) (defScope s_law_cell) .none kV16 dc16 pm16 an16 cd16 ct16), sl16⟩)
    (c16 : PySem.W.codeIn K cd16 "_law_cell" = true)
    (k16 : PySem.W.keepIn K (.ref f16) = true)
    (a17 : PySem.W.nsIn K mainGlobals "_law_box" = some (some (.ref f17)))
    (l17 : K.lookup f17 = some ⟨oc17, od17, .func (PySem.W.fnOf "_law_box" "_law_box" (defArgs s_law_box) (defBody s_law_box) (defScope s_law_box) .none kV17 dc17 pm17 an17 cd17 ct17), sl17⟩)
    (c17 : PySem.W.codeIn K cd17 "_law_box" = true)
    (k17 : PySem.W.keepIn K (.ref f17) = true)
    (a18 : PySem.W.nsIn K mainGlobals "_law_take" = some (some (.ref f18)))
    (l18 : K.lookup f18 = some ⟨oc18, od18, .func (PySem.W.fnOf "_law_take" "_law_take" (defArgs s_law_take) (defBody s_law_take) (defScope s_law_take) .none kV18 dc18 pm18 an18 cd18 ct18), sl18⟩)
    (c18 : PySem.W.codeIn K cd18 "_law_take" = true)
    (k18 : PySem.W.keepIn K (.ref f18) = true)
    (a19 : PySem.W.nsIn K mainGlobals "_law_same" = some (some (.ref f19)))
    (l19 : K.lookup f19 = some ⟨oc19, od19, .func (PySem.W.fnOf "_law_same" "_law_same" (defArgs s_law_same) (defBody s_law_same) (defScope s_law_same) .none kV19 dc19 pm19 an19 cd19 ct19), sl19⟩)
    (c19 : PySem.W.codeIn K cd19 "_law_same" = true)
    (k19 : PySem.W.keepIn K (.ref f19) = true)
    (a20 : PySem.W.nsIn K mainGlobals "_law_choose" = some (some (.ref f20)))
    (l20 : K.lookup f20 = some ⟨oc20, od20, .func (PySem.W.fnOf "_law_choose" "_law_choose" (defArgs s_law_choose) (defBody s_law_choose) (defScope s_law_choose) .none kV20 dc20 pm20 an20 cd20 ct20), sl20⟩)
    (c20 : PySem.W.codeIn K cd20 "_law_choose" = true)
    (k20 : PySem.W.keepIn K (.ref f20) = true)
    (a21 : PySem.W.nsIn K mainGlobals "_law_raised" = some (some (.ref f21)))
    (l21 : K.lookup f21 = some ⟨oc21, od21, .func (PySem.W.fnOf "_law_raised" "_law_raised" (defArgs s_law_raised) (defBody s_law_raised) (defScope s_law_raised) .none kV21 dc21 pm21 an21 cd21 ct21), sl21⟩)
    (c21 : PySem.W.codeIn K cd21 "_law_raised" = true)
    (k21 : PySem.W.keepIn K (.ref f21) = true)
    (a22 : PySem.W.nsIn K mainGlobals "_law_wire_tables" = some (some (.ref f22)))
    (l22 : K.lookup f22 = some ⟨oc22, od22, .func (PySem.W.fnOf "_law_wire_tables" "_law_wire_tables" (defArgs s_law_wire_tables) (defBody s_law_wire_tables) (defScope s_law_wire_tables) .none kV22 dc22 pm22 an22 cd22 ct22), sl22⟩)
    (c22 : PySem.W.codeIn K cd22 "_law_wire_tables" = true)
    (k22 : PySem.W.keepIn K (.ref f22) = true)
    (a23 : PySem.W.nsIn K mainGlobals "_law_size_lists" = some (some (.ref f23)))
    (l23 : K.lookup f23 = some ⟨oc23, od23, .func (PySem.W.fnOf "_law_size_lists" "_law_size_lists" (defArgs s_law_size_lists) (defBody s_law_size_lists) (defScope s_law_size_lists) .none kV23 dc23 pm23 an23 cd23 ct23), sl23⟩)
    (c23 : PySem.W.codeIn K cd23 "_law_size_lists" = true)
    (k23 : PySem.W.keepIn K (.ref f23) = true)
    (a24 : PySem.W.nsIn K mainGlobals "_law_listed" = some (some (.ref f24)))
    (l24 : K.lookup f24 = some ⟨oc24, od24, .func (PySem.W.fnOf "_law_listed" "_law_listed" (defArgs s_law_listed) (defBody s_law_listed) (defScope s_law_listed) .none kV24 dc24 pm24 an24 cd24 ct24), sl24⟩)
    (c24 : PySem.W.codeIn K cd24 "_law_listed" = true)
    (k24 : PySem.W.keepIn K (.ref f24) = true)
    (a25 : PySem.W.nsIn K mainGlobals "_law_row" = some (some (.ref f25)))
    (l25 : K.lookup f25 = some ⟨oc25, od25, .func (PySem.W.fnOf "_law_row" "_law_row" (defArgs s_law_row) (defBody s_law_row) (defScope s_law_row) .none kV25 dc25 pm25 an25 cd25 ct25), sl25⟩)
    (c25 : PySem.W.codeIn K cd25 "_law_row" = true)
    (k25 : PySem.W.keepIn K (.ref f25) = true)
    (a26 : PySem.W.nsIn K mainGlobals "_law_full" = some (some (.ref f26)))
    (l26 : K.lookup f26 = some ⟨oc26, od26, .func (PySem.W.fnOf "_law_full" "_law_full" (defArgs s_law_full) (defBody s_law_full) (defScope s_law_full) .none kV26 dc26 pm26 an26 cd26 ct26), sl26⟩)
    (c26 : PySem.W.codeIn K cd26 "_law_full" = true)
    (k26 : PySem.W.keepIn K (.ref f26) = true)
    (a27 : PySem.W.nsIn K mainGlobals "_law_told" = some (some (.ref f27)))
    (l27 : K.lookup f27 = some ⟨oc27, od27, .func (PySem.W.fnOf "_law_told" "_law_told" (defArgs s_law_told) (defBody s_law_told) (defScope s_law_told) .none kV27 dc27 pm27 an27 cd27 ct27), sl27⟩)
    (c27 : PySem.W.codeIn K cd27 "_law_told" = true)
    (k27 : PySem.W.keepIn K (.ref f27) = true)
    (a28 : PySem.W.nsIn K mainGlobals "_law_fixed_right" = some (some (.ref f28)))
    (l28 : K.lookup f28 = some ⟨oc28, od28, .func (PySem.W.fnOf "_law_fixed_right" "_law_fixed_right" (defArgs s_law_fixed_right) (defBody s_law_fixed_right) (defScope s_law_fixed_right) .none kV28 dc28 pm28 an28 cd28 ct28), sl28⟩)
    (c28 : PySem.W.codeIn K cd28 "_law_fixed_right" = true)
    (k28 : PySem.W.keepIn K (.ref f28) = true)
    (a29 : PySem.W.nsIn K mainGlobals "_law_small_right" = some (some (.ref f29)))
    (l29 : K.lookup f29 = some ⟨oc29, od29, .func (PySem.W.fnOf "_law_small_right" "_law_small_right" (defArgs s_law_small_right) (defBody s_law_small_right) (defScope s_law_small_right) .none kV29 dc29 pm29 an29 cd29 ct29), sl29⟩)
    (c29 : PySem.W.codeIn K cd29 "_law_small_right" = true)
    (k29 : PySem.W.keepIn K (.ref f29) = true)
    (a30 : PySem.W.nsIn K mainGlobals "_law_leasts_right" = some (some (.ref f30)))
    (l30 : K.lookup f30 = some ⟨oc30, od30, .func (PySem.W.fnOf "_law_leasts_right" "_law_leasts_right" (defArgs s_law_leasts_right) (defBody s_law_leasts_right) (defScope s_law_leasts_right) .none kV30 dc30 pm30 an30 cd30 ct30), sl30⟩)
    (c30 : PySem.W.codeIn K cd30 "_law_leasts_right" = true)
    (k30 : PySem.W.keepIn K (.ref f30) = true)
    (a31 : PySem.W.nsIn K mainGlobals "_law_rests_right" = some (some (.ref f31)))
    (l31 : K.lookup f31 = some ⟨oc31, od31, .func (PySem.W.fnOf "_law_rests_right" "_law_rests_right" (defArgs s_law_rests_right) (defBody s_law_rests_right) (defScope s_law_rests_right) .none kV31 dc31 pm31 an31 cd31 ct31), sl31⟩)
    (c31 : PySem.W.codeIn K cd31 "_law_rests_right" = true)
    (k31 : PySem.W.keepIn K (.ref f31) = true)
    (a32 : PySem.W.nsIn K mainGlobals "law" = some (some (.ref f32)))
    (l32 : K.lookup f32 = some ⟨oc32, od32, .func (PySem.W.fnOf "law" "law" (defArgs s_law) (defBody s_law) (defScope s_law) .none kV32 dc32 pm32 an32 cd32 ct32), sl32⟩)
    (c32 : PySem.W.codeIn K cd32 "law" = true)
    (k32 : PySem.W.keepIn K (.ref f32) = true)
    (z_int : PySem.W.nsIn K mainGlobals "int" = some none)
    (z_bool : PySem.W.nsIn K mainGlobals "bool" = some none)
    (z_str : PySem.W.nsIn K mainGlobals "str" = some none)
    (z_list : PySem.W.nsIn K mainGlobals "list" = some none)
    (z_tuple : PySem.W.nsIn K mainGlobals "tuple" = some none)
    (z_len : PySem.W.nsIn K mainGlobals "len" = some none)
    (z_sum : PySem.W.nsIn K mainGlobals "sum" = some none)
    (z_abs : PySem.W.nsIn K mainGlobals "abs" = some none)
    (z_all : PySem.W.nsIn K mainGlobals "all" = some none)
    (z_range : PySem.W.nsIn K mainGlobals "range" = some none)
    (z_isinstance : PySem.W.nsIn K mainGlobals "isinstance" = some none)
    (z_max : PySem.W.nsIn K mainGlobals "max" = some none)
    (z_min : PySem.W.nsIn K mainGlobals "min" = some none)
    (z_enumerate : PySem.W.nsIn K mainGlobals "enumerate" = some none)
    (c_MOST_NUMBERS : PySem.W.nsIn K mainGlobals "MOST_NUMBERS" = some (some (.int 16 t_MOST_NUMBERS)))
    (c_GREATEST : PySem.W.nsIn K mainGlobals "GREATEST" = some (some (.int 100000000000000000000000000000000000000000000000000 t_GREATEST)))
    (c_MOST_WIRES : PySem.W.nsIn K mainGlobals "MOST_WIRES" = some (some (.int 24 t_MOST_WIRES)))
    (c_comb : PySem.W.nsIn K mainGlobals "comb" = some (some (.builtin "math.comb")))
    (aCT : PySem.W.nsIn K mainGlobals "TalkError" = some (some (.ref CT)))
    (aCInvalidRow : PySem.W.nsIn K mainGlobals "InvalidRow" = some (some (.ref CInvalidRow)))
    (xLInvalidRow : K.lookup CInvalidRow = some (excClassObj nmInvalidRow qInvalidRow CInvalidRow NInvalidRow bsInvalidRow [.ref CT, .type "ValueError", .type "Exception", .type "BaseException", .type "object"] true snInvalidRow subInvalidRow abInvalidRow colInvalidRow ddInvalidRow m0InvalidRow m1InvalidRow m2InvalidRow m3InvalidRow m5InvalidRow "ValueError.__new__"))
    (saInvalidRow : PySem.W.findIn K (.ref CInvalidRow) "__setattr__" = some (some (.builtin "object.__setattr__")))
    (gaInvalidRow : PySem.W.findIn K (.ref CInvalidRow) "__getattribute__" = some (some (.builtin "BaseException.__getattribute__")))
    (ggInvalidRow : PySem.W.findIn K (.ref CInvalidRow) "__getattr__" = some none)
    (nbInvalidRow : PySem.W.findIn K (.ref CInvalidRow) "given" = some none)
    (iCInvalidRow : PySem.W.findIn K (.ref CInvalidRow) "__init__" = some (some (.ref fIInvalidRow)))
    (tIInvalidRow : PySem.W.typeIn K (.ref fIInvalidRow) = some (.type "function"))
    (lIInvalidRow : K.lookup fIInvalidRow = some ⟨ocInvalidRow, odInvalidRow, .func (PySem.W.fnOf "__init__" "InvalidRow.__init__" (defArgs s_init_InvalidRow) (defBody s_init_InvalidRow) (defScope s_init_InvalidRow) .none kVInvalidRow dcInvalidRow pmInvalidRow anInvalidRow cdInvalidRow ctInvalidRow), slInvalidRow⟩)
    (cIInvalidRow : PySem.W.codeIn K cdInvalidRow "InvalidRow.__init__" = true)
    (kIInvalidRow : PySem.W.keepIn K (.ref fIInvalidRow) = true)
    (kCInvalidRow : PySem.W.keepIn K (.ref CInvalidRow) = true)
    (eCInvalidRow : PySem.W.subIn K (.ref CInvalidRow) (.type "BaseException") = some true)
    (tCInvalidRow : PySem.W.typeIn K (.ref CInvalidRow) = some (.type "type"))
    (hCInvalidRow : PySem.W.hasDictIn K CInvalidRow = true)
    (iSInvalidRow : PySem.W.isClsIn K CInvalidRow = true)
    (aCInvalidWires : PySem.W.nsIn K mainGlobals "InvalidWires" = some (some (.ref CInvalidWires)))
    (xLInvalidWires : K.lookup CInvalidWires = some (excClassObj nmInvalidWires qInvalidWires CInvalidWires NInvalidWires bsInvalidWires [.ref CT, .type "ValueError", .type "Exception", .type "BaseException", .type "object"] true snInvalidWires subInvalidWires abInvalidWires colInvalidWires ddInvalidWires m0InvalidWires m1InvalidWires m2InvalidWires m3InvalidWires m5InvalidWires "ValueError.__new__"))
    (saInvalidWires : PySem.W.findIn K (.ref CInvalidWires) "__setattr__" = some (some (.builtin "object.__setattr__")))
    (gaInvalidWires : PySem.W.findIn K (.ref CInvalidWires) "__getattribute__" = some (some (.builtin "BaseException.__getattribute__")))
    (ggInvalidWires : PySem.W.findIn K (.ref CInvalidWires) "__getattr__" = some none)
    (nbInvalidWires : PySem.W.findIn K (.ref CInvalidWires) "given" = some none)
    (iCInvalidWires : PySem.W.findIn K (.ref CInvalidWires) "__init__" = some (some (.ref fIInvalidWires)))
    (tIInvalidWires : PySem.W.typeIn K (.ref fIInvalidWires) = some (.type "function"))
    (lIInvalidWires : K.lookup fIInvalidWires = some ⟨ocInvalidWires, odInvalidWires, .func (PySem.W.fnOf "__init__" "InvalidWires.__init__" (defArgs s_init_InvalidWires) (defBody s_init_InvalidWires) (defScope s_init_InvalidWires) .none kVInvalidWires dcInvalidWires pmInvalidWires anInvalidWires cdInvalidWires ctInvalidWires), slInvalidWires⟩)
    (cIInvalidWires : PySem.W.codeIn K cdInvalidWires "InvalidWires.__init__" = true)
    (kIInvalidWires : PySem.W.keepIn K (.ref fIInvalidWires) = true)
    (kCInvalidWires : PySem.W.keepIn K (.ref CInvalidWires) = true)
    (eCInvalidWires : PySem.W.subIn K (.ref CInvalidWires) (.type "BaseException") = some true)
    (tCInvalidWires : PySem.W.typeIn K (.ref CInvalidWires) = some (.type "type"))
    (hCInvalidWires : PySem.W.hasDictIn K CInvalidWires = true)
    (iSInvalidWires : PySem.W.isClsIn K CInvalidWires = true) :
    ∃ fd : FuncData, (∀ (s : Shared) (v : Value), BindsTo s fd ⟨[v], []⟩ [("script", v)]) ∧ ∀ base : Heap, K.In base → base.Ns mainGlobals mg → FnOk l.prog w K mg base CX0 13 fa fd ["script"] (spLaw K) := by
  have e := hfa.symm.trans (PySem.W.mg_of X G a32)
  cases e
  let T : TK K mg := {
    is_integer := mkDef X G a1 l1 c1 k1 (fun _ _ _ _ _ _ us hl => match us, hl with | [_], _ => rfl)
    is_between := mkDef X G a2 l2 c2 k2 (fun _ _ _ _ _ _ us hl => match us, hl with | [_, _, _], _ => rfl)
    is_list := mkDef X G a3 l3 c3 k3 (fun _ _ _ _ _ _ us hl => match us, hl with | [_], _ => rfl)
    are_between := mkDef X G a4 l4 c4 k4 (fun _ _ _ _ _ _ us hl => match us, hl with | [_, _, _], _ => rfl)
    is_row := mkDef X G a5 l5 c5 k5 (fun _ _ _ _ _ _ us hl => match us, hl with | [_], _ => rfl)
    can_raise := mkDef X G a6 l6 c6 k6 (fun _ _ _ _ _ _ us hl => match us, hl with | [_, _], _ => rfl)
    raise_plan := mkDef X G a7 l7 c7 k7 (fun _ _ _ _ _ _ us hl => match us, hl with | [_, _], _ => rfl)
    leasts := mkDef X G a8 l8 c8 k8 (fun _ _ _ _ _ _ us hl => match us, hl with | [_], _ => rfl)
    least := mkDef X G a9 l9 c9 k9 (fun _ _ _ _ _ _ us hl => match us, hl with | [_, _, _], _ => rfl)
    most_rest := mkDef X G a10 l10 c10 k10 (fun _ _ _ _ _ _ us hl => match us, hl with | [_, _], _ => rfl)
    most_told := mkDef X G a11 l11 c11 k11 (fun _ _ _ _ _ _ us hl => match us, hl with | [_], _ => rfl)
    best := mkDef X G a12 l12 c12 k12 (fun _ _ _ _ _ _ us hl => match us, hl with | [_, _, _], _ => rfl)
    check_row_and_wires := mkDef X G a13 l13 c13 k13 (fun _ _ _ _ _ _ us hl => match us, hl with | [_, _], _ => rfl)
    check_row := mkDef X G a14 l14 c14 k14 (fun _ _ _ _ _ _ us hl => match us, hl with | [_], _ => rfl)
    check_wires := mkDef X G a15 l15 c15 k15 (fun _ _ _ _ _ _ us hl => match us, hl with | [_], _ => rfl)
    law_cell := mkDef X G a16 l16 c16 k16 (fun _ _ _ _ _ _ us hl => match us, hl with | [_, _], _ => rfl)
    law_box := mkDef X G a17 l17 c17 k17 (fun _ _ _ _ _ _ us hl => match us, hl with | [_], _ => rfl)
    law_take := mkDef X G a18 l18 c18 k18 (fun _ _ _ _ _ _ us hl => match us, hl with | [_, _], _ => rfl)
    law_same := mkDef X G a19 l19 c19 k19 (fun _ _ _ _ _ _ us hl => match us, hl with | [_, _], _ => rfl)
    law_choose := mkDef X G a20 l20 c20 k20 (fun _ _ _ _ _ _ us hl => match us, hl with | [_, _], _ => rfl)
    law_raised := mkDef X G a21 l21 c21 k21 (fun _ _ _ _ _ _ us hl => match us, hl with | [_], _ => rfl)
    law_wire_tables := mkDef X G a22 l22 c22 k22 (fun _ _ _ _ _ _ us hl => match us, hl with | [_, _], _ => rfl)
    law_size_lists := mkDef X G a23 l23 c23 k23 (fun _ _ _ _ _ _ us hl => match us, hl with | [_], _ => rfl)
    law_listed := mkDef X G a24 l24 c24 k24 (fun _ _ _ _ _ _ us hl => match us, hl with | [_, _], _ => rfl)
    law_row := mkDef X G a25 l25 c25 k25 (fun _ _ _ _ _ _ us hl => match us, hl with | [_, _, _, _], _ => rfl)
    law_full := mkDef X G a26 l26 c26 k26 (fun _ _ _ _ _ _ us hl => match us, hl with | [_, _, _], _ => rfl)
    law_told := mkDef X G a27 l27 c27 k27 (fun _ _ _ _ _ _ us hl => match us, hl with | [_, _, _], _ => rfl)
    law_fixed_right := mkDef X G a28 l28 c28 k28 (fun _ _ _ _ _ _ us hl => match us, hl with | [_], _ => rfl)
    law_small_right := mkDef X G a29 l29 c29 k29 (fun _ _ _ _ _ _ us hl => match us, hl with | [_, _], _ => rfl)
    law_leasts_right := mkDef X G a30 l30 c30 k30 (fun _ _ _ _ _ _ us hl => match us, hl with | [_, _, _], _ => rfl)
    law_rests_right := mkDef X G a31 l31 c31 k31 (fun _ _ _ _ _ _ us hl => match us, hl with | [_, _, _], _ => rfl)
    law := mkDef X G a32 l32 c32 k32 (fun _ _ _ _ _ _ us hl => match us, hl with | [_], _ => rfl)
    z_int := PySem.W.mg_none_of X G z_int
    z_bool := PySem.W.mg_none_of X G z_bool
    z_str := PySem.W.mg_none_of X G z_str
    z_list := PySem.W.mg_none_of X G z_list
    z_tuple := PySem.W.mg_none_of X G z_tuple
    z_len := PySem.W.mg_none_of X G z_len
    z_sum := PySem.W.mg_none_of X G z_sum
    z_abs := PySem.W.mg_none_of X G z_abs
    z_all := PySem.W.mg_none_of X G z_all
    z_range := PySem.W.mg_none_of X G z_range
    z_isinstance := PySem.W.mg_none_of X G z_isinstance
    z_max := PySem.W.mg_none_of X G z_max
    z_min := PySem.W.mg_none_of X G z_min
    z_enumerate := PySem.W.mg_none_of X G z_enumerate
    t_MOST_NUMBERS := t_MOST_NUMBERS
    c_MOST_NUMBERS := PySem.W.mg_of X G c_MOST_NUMBERS
    t_GREATEST := t_GREATEST
    c_GREATEST := PySem.W.mg_of X G c_GREATEST
    t_MOST_WIRES := t_MOST_WIRES
    c_MOST_WIRES := PySem.W.mg_of X G c_MOST_WIRES
    c_comb := PySem.W.mg_of X G c_comb
    TalkError_C := CT
    TalkError_gC := PySem.W.mg_of X G aCT
    InvalidRow := ⟨CInvalidRow, fIInvalidRow, _, fun_mk (st := s_init_InvalidRow) lIInvalidRow cIInvalidRow kIInvalidRow, (fun_mk (st := s_init_InvalidRow) lIInvalidRow cIInvalidRow kIInvalidRow).binds (ps := ["self", "given"]) fun _ _ _ _ _ _ us hl => match us, hl with | [_, _], _ => rfl, ⟨⟨_, _, _, _, _, _, _, _, _, _, _, _, _, _, _, xLInvalidRow, rfl⟩, saInvalidRow, eCInvalidRow, tCInvalidRow, kCInvalidRow⟩, iCInvalidRow, tIInvalidRow, PySem.W.mg_of X G aCInvalidRow, nbInvalidRow, ⟨gaInvalidRow, ggInvalidRow, eCInvalidRow, hCInvalidRow⟩⟩
    InvalidWires := ⟨CInvalidWires, fIInvalidWires, _, fun_mk (st := s_init_InvalidWires) lIInvalidWires cIInvalidWires kIInvalidWires, (fun_mk (st := s_init_InvalidWires) lIInvalidWires cIInvalidWires kIInvalidWires).binds (ps := ["self", "given"]) fun _ _ _ _ _ _ us hl => match us, hl with | [_, _], _ => rfl, ⟨⟨_, _, _, _, _, _, _, _, _, _, _, _, _, _, _, xLInvalidWires, rfl⟩, saInvalidWires, eCInvalidWires, tCInvalidWires, kCInvalidWires⟩, iCInvalidWires, tIInvalidWires, PySem.W.mg_of X G aCInvalidWires, nbInvalidWires, ⟨gaInvalidWires, ggInvalidWires, eCInvalidWires, hCInvalidWires⟩⟩
    kb_can_raise_wires_row := kb21 (fun_mk (st := s_can_raise) l6 c6 k6) fun _ _ _ _ _ _ _ _ => rfl
    kb_leasts_row := kb1 (fun_mk (st := s_leasts) l8 c8 k8) fun _ _ _ _ _ _ _ => rfl }
  exact ⟨PySem.W.fnOf "law" "law" (defArgs s_law) (defBody s_law) (defScope s_law) .none kV32 dc32 pm32 an32 cd32 ct32, fun s v => .of_eq rfl, fun base _ _ => ok_law T⟩
theorem walk {l : PySem.W.OpenLaw} {q : Program} {loose : List Str} {XP : (Str → Option Value) → Heap → Prop} {YP : World → Heap → Prop} {d : DefRec} {K : Params → PySem.W.Frag} (hn : l.most = some 63) (hdf : d.params.defaults = [])
    (hY : ∀ (w : World) (h : Heap), YP w h → (K w.params).In h)
    (F : ∀ (w : World) (mg : Str → Option Value) (fa : Addr) (h : Heap), (K w.params).In h → h.Ns mainGlobals mg → mg d.name = some (.ref fa) →
      ∃ fd : FuncData, (∀ (s : Shared) (u : Value), BindsTo s fd ⟨[u], []⟩ [("script", u)]) ∧ ∀ base : Heap, (K w.params).In base → base.Ns mainGlobals mg → FnOk l.prog w (K w.params) mg base CX0 13 fa fd ["script"] (spLaw (K w.params))) :
    PySem.W.WalkO q loose XP YP l.row.toRowW d [] (fun f vs => PySem.call f vs) :=
  L2.walk_of (n := 63) (k := 13) (x := "script") (CX := fun _ => CX0) (sp := fun w => spLaw (K w.params)) hn (by decide) hdf ⟨rfl, by decide, by decide⟩ hY F
    (fun _ _ a ns hl _ hS => ⟨a, ns, rfl, hS, hl, fun _ => rfl⟩) fun _ _ _ _ _ z => z
end L2.U
open PySem PySem.W PyProof.Rows
set_option maxRecDepth 100000 in
set_option maxHeartbeats 0 in
theorem PySem.Challenge.cw_upforgood_k18_whole_rows_on_wires_holds : PySem.Challenge.rw_upforgood_k18_whole_rows_on_wires.Holds := by
  w_on; o_law; k_head; (case hw => w_witness2)
  k_fill
  refine L2.U.walk (l := PySem.Challenge.rw_upforgood_k18_whole_rows_on_wires) rfl rfl (fun w h Y => PySem.W.kIn_of Y) ?F
  case F =>
    intro w mg fa h KX G hmg
    refine' L2.U.all_mk KX G hmg ?a1 ?l1 ?c1 ?k1 ?a2 ?l2 ?c2 ?k2 ?a3 ?l3 ?c3 ?k3 ?a4 ?l4 ?c4 ?k4 ?a5 ?l5 ?c5 ?k5 ?a6 ?l6 ?c6 ?k6 ?a7 ?l7 ?c7 ?k7 ?a8 ?l8 ?c8 ?k8 ?a9 ?l9 ?c9 ?k9 ?a10 ?l10 ?c10 ?k10 ?a11 ?l11 ?c11 ?k11 ?a12 ?l12 ?c12 ?k12 ?a13 ?l13 ?c13 ?k13 ?a14 ?l14 ?c14 ?k14 ?a15 ?l15 ?c15 ?k15 ?a16 ?l16 ?c16 ?k16 ?a17 ?l17 ?c17 ?k17 ?a18 ?l18 ?c18 ?k18 ?a19 ?l19 ?c19 ?k19 ?a20 ?l20 ?c20 ?k20 ?a21 ?l21 ?c21 ?k21 ?a22 ?l22 ?c22 ?k22 ?a23 ?l23 ?c23 ?k23 ?a24 ?l24 ?c24 ?k24 ?a25 ?l25 ?c25 ?k25 ?a26 ?l26 ?c26 ?k26 ?a27 ?l27 ?c27 ?k27 ?a28 ?l28 ?c28 ?k28 ?a29 ?l29 ?c29 ?k29 ?a30 ?l30 ?c30 ?k30 ?a31 ?l31 ?c31 ?k31 ?a32 ?l32 ?c32 ?k32 ?z_int ?z_bool ?z_str ?z_list ?z_tuple ?z_len ?z_sum ?z_abs ?z_all ?z_range ?z_isinstance ?z_max ?z_min ?z_enumerate ?c_MOST_NUMBERS ?c_GREATEST ?c_MOST_WIRES ?c_comb ?aCT ?aCInvalidRow ?xLInvalidRow ?saInvalidRow ?gaInvalidRow ?ggInvalidRow ?nbInvalidRow ?iCInvalidRow ?tIInvalidRow ?lIInvalidRow ?cIInvalidRow ?kIInvalidRow ?kCInvalidRow ?eCInvalidRow ?tCInvalidRow ?hCInvalidRow ?iSInvalidRow ?aCInvalidWires ?xLInvalidWires ?saInvalidWires ?gaInvalidWires ?ggInvalidWires ?nbInvalidWires ?iCInvalidWires ?tIInvalidWires ?lIInvalidWires ?cIInvalidWires ?kIInvalidWires ?kCInvalidWires ?eCInvalidWires ?tCInvalidWires ?hCInvalidWires ?iSInvalidWires
    (case a1 => k_is)
    (case l1 => k_is)
    (case c1 => k_is)
    (case k1 => k_is)
    (case a2 => k_is)
    (case l2 => k_is)
    (case c2 => k_is)
    (case k2 => k_is)
    (case a3 => k_is)
    (case l3 => k_is)
    (case c3 => k_is)
    (case k3 => k_is)
    (case a4 => k_is)
    (case l4 => k_is)
    (case c4 => k_is)
    (case k4 => k_is)
    (case a5 => k_is)
    (case l5 => k_is)
    (case c5 => k_is)
    (case k5 => k_is)
    (case a6 => k_is)
    (case l6 => k_is)
    (case c6 => k_is)
    (case k6 => k_is)
    (case a7 => k_is)
    (case l7 => k_is)
    (case c7 => k_is)
    (case k7 => k_is)
    (case a8 => k_is)
    (case l8 => k_is)
    (case c8 => k_is)
    (case k8 => k_is)
    (case a9 => k_is)
    (case l9 => k_is)
    (case c9 => k_is)
    (case k9 => k_is)
    (case a10 => k_is)
    (case l10 => k_is)
    (case c10 => k_is)
    (case k10 => k_is)
    (case a11 => k_is)
    (case l11 => k_is)
    (case c11 => k_is)
    (case k11 => k_is)
    (case a12 => k_is)
    (case l12 => k_is)
    (case c12 => k_is)
    (case k12 => k_is)
    (case a13 => k_is)
    (case l13 => k_is)
    (case c13 => k_is)
    (case k13 => k_is)
    (case a14 => k_is)
    (case l14 => k_is)
    (case c14 => k_is)
    (case k14 => k_is)
    (case a15 => k_is)
    (case l15 => k_is)
    (case c15 => k_is)
    (case k15 => k_is)
    (case a16 => k_is)
    (case l16 => k_is)
    (case c16 => k_is)
    (case k16 => k_is)
    (case a17 => k_is)
    (case l17 => k_is)
    (case c17 => k_is)
    (case k17 => k_is)
    (case a18 => k_is)
    (case l18 => k_is)
    (case c18 => k_is)
    (case k18 => k_is)
    (case a19 => k_is)
    (case l19 => k_is)
    (case c19 => k_is)
    (case k19 => k_is)
    (case a20 => k_is)
    (case l20 => k_is)
    (case c20 => k_is)
    (case k20 => k_is)
    (case a21 => k_is)
    (case l21 => k_is)
    (case c21 => k_is)
    (case k21 => k_is)
    (case a22 => k_is)
    (case l22 => k_is)
    (case c22 => k_is)
    (case k22 => k_is)
    (case a23 => k_is)
    (case l23 => k_is)
    (case c23 => k_is)
    (case k23 => k_is)
    (case a24 => k_is)
    (case l24 => k_is)
    (case c24 => k_is)
    (case k24 => k_is)
    (case a25 => k_is)
    (case l25 => k_is)
    (case c25 => k_is)
    (case k25 => k_is)
    (case a26 => k_is)
    (case l26 => k_is)
    (case c26 => k_is)
    (case k26 => k_is)
    (case a27 => k_is)
    (case l27 => k_is)
    (case c27 => k_is)
    (case k27 => k_is)
    (case a28 => k_is)
    (case l28 => k_is)
    (case c28 => k_is)
    (case k28 => k_is)
    (case a29 => k_is)
    (case l29 => k_is)
    (case c29 => k_is)
    (case k29 => k_is)
    (case a30 => k_is)
    (case l30 => k_is)
    (case c30 => k_is)
    (case k30 => k_is)
    (case a31 => k_is)
    (case l31 => k_is)
    (case c31 => k_is)
    (case k31 => k_is)
    (case a32 => k_is)
    (case l32 => k_is)
    (case c32 => k_is)
    (case k32 => k_is)
    (case z_int => k_is)
    (case z_bool => k_is)
    (case z_str => k_is)
    (case z_list => k_is)
    (case z_tuple => k_is)
    (case z_len => k_is)
    (case z_sum => k_is)
    (case z_abs => k_is)
    (case z_all => k_is)
    (case z_range => k_is)
    (case z_isinstance => k_is)
    (case z_max => k_is)
    (case z_min => k_is)
    (case z_enumerate => k_is)
    (case c_MOST_NUMBERS => k_is)
    (case c_GREATEST => k_is)
    (case c_MOST_WIRES => k_is)
    (case c_comb => k_is)
    (case aCT => k_is)
    (case aCInvalidRow => k_is)
    (case xLInvalidRow => k_is)
    (case saInvalidRow => k_is)
    (case gaInvalidRow => k_is)
    (case ggInvalidRow => k_is)
    (case nbInvalidRow => k_is)
    (case iCInvalidRow => k_is)
    (case tIInvalidRow => k_is)
    (case lIInvalidRow => k_is)
    (case cIInvalidRow => k_is)
    (case kIInvalidRow => k_is)
    (case kCInvalidRow => k_is)
    (case eCInvalidRow => k_is)
    (case tCInvalidRow => k_is)
    (case hCInvalidRow => k_is)
    (case iSInvalidRow => k_is)
    (case aCInvalidWires => k_is)
    (case xLInvalidWires => k_is)
    (case saInvalidWires => k_is)
    (case gaInvalidWires => k_is)
    (case ggInvalidWires => k_is)
    (case nbInvalidWires => k_is)
    (case iCInvalidWires => k_is)
    (case tIInvalidWires => k_is)
    (case lIInvalidWires => k_is)
    (case cIInvalidWires => k_is)
    (case kIInvalidWires => k_is)
    (case kCInvalidWires => k_is)
    (case eCInvalidWires => k_is)
    (case tCInvalidWires => k_is)
    (case hCInvalidWires => k_is)
    (case iSInvalidWires => k_is)

