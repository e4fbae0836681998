import PyProof.Rows.All
import Wide.All
import OpenK.AllK
import Wide.FinOn
import HandS.ForMost
import HandS.ForExc
import HandS.TryMany
import HandS.ExcInit
import HandS.ExcField
import HandS.Lambda
import HandS.EndTab
import HandS.EndOwn
import HandS.Conv
import HandS.Steps
import HandS.Evl
import HandS.IsInst
import HandS.New0
import HandS.OwnEq
import HandS.TupAny
import HandS.Small
import HandS.More
import HandS.HotCalls
import PyProof.Rows.TupMore
import PySem.Challenge.RW_lateststore_k04_programs_refused
set_option Elab.async false
set_option linter.all false
set_option maxRecDepth 100000
set_option maxHeartbeats 4000000
namespace Q
open PySem PySem.Spec PyProof.Rows L2
section
variable {X : Cx}
/-- script + [0]: two lists that are read, whatever their slots -/
def rCatR (K : PySem.W.Frag) : R2 := fun x y H Q => ∃ l b xs zs, x = .ref l ∧ y = .ref b ∧ SqL K H l xs ∧ SqL K H b zs ∧ xs.length + zs.length ≤ sizeLine ∧ ∀ p, H p = none → Q (.ref p) (upd H p (.lst (xs ++ zs)))
theorem op_catR : OpR X (binaryOp .Add) (rCatR X.K) := by
  intro pz s σ H x y v u Q I rx ry h
  obtain ⟨l, b, xs, zs, rfl, rfl, h1, h2, hz, q⟩ := h
  cases rx
  cases ry
  obtain ⟨i1, r1, p1, z1⟩ := I.list h1
  obtain ⟨i2, r2, p2, z2⟩ := I.list h2
  have l1 := r1.length
  have l2 := r2.length
  obtain ⟨⟨c1, d1, da1, s1⟩, g1, e1, n1, f1⟩ := p1.isList
  obtain ⟨⟨c2, d2, da2, s2⟩, g2, e2, n2, f2⟩ := p2.isList
  simp only at e1 f1 e2 f2
  subst e1 f1 e2 f2
  refine concat_meets ⟨_, g1, rfl⟩ ⟨_, g2, rfl⟩ PySem.noFill_list_add PySem.seq_list_add PySem.F.slot_list_add PySem.F.entry_list_add (PySem.F.args_list_add_2 _ _)
    (list_addW l b i1.toArray i2.toArray n1 n2 d1 d2 s1 s2 (by simp only [List.size_toArray]; omega)) ⟨g1, g2, ?_⟩
  have ea : i1.toArray ++ i2.toArray = (i1 ++ i2).toArray := by simp
  rw [ea]
  exact ⟨.ref _, _, I.lnew (t' := s.toks) (r1.append r2) (by rw [List.length_append]; omega), rfl, q _ I.fresh⟩
end
end Q

namespace Q
open PySem PySem.Spec PyProof.Rows L2
/-- an except clause: the class, the slot of its name where it has one, its suite -/
structure Cl where
  c : Value
  i : Option Nat
  ts : Addr → Value → Option Addr → TS
/-- behind a named suite the name is gone -/
def unset (D : Ends) (i : Nat) : Ends := { nx := fun τ G => D.nx (τ.set i none) G, rt := D.rt, bk := fun τ G => D.bk (τ.set i none) G, ct := fun τ G => D.ct (τ.set i none) G }
def tSuite (p : Cl) (D : Ends) (a : Addr) (cls : Value) (d : Option Addr) (σ : L2.St) (H : Hp) : Prop :=
  match p.i with
  | none => p.ts a cls d D σ H
  | some i => p.ts a cls d (unset D i) (σ.set i (some (.ref a))) H
def wCl (K : PySem.W.Frag) (Wout : WX) (D : Ends) : List Cl → WX
  | [] => Wout
  | p :: r => fun cls d σ H => ∃ b, PySem.W.exmOne K cls p.c = some b ∧ (b = true → ∀ a, H a = none → tSuite p D a cls d σ H) ∧ (b = false → wCl K Wout D r cls d σ H)
inductive ClOk (X : Cx) : List ExceptHandler → List Cl → Prop
  | nil : ClOk X [] []
  | bare {x : Str} {c : Value} {ts : Addr → Value → Option Addr → TS} {b₀ : Stmt} {ss : List Stmt} {np p2 : Pos} {hs : List ExceptHandler} {l : List Cl} (hc : Names X x c)
      (hsu : ∀ (a : Addr) (oe : Obj) (cls : Value) (d : Option Addr) (pn : List (Addr × Obj)), Zc cls d oe → (∃ vs, oe.data = .fields vs) → PSs (X.suite a ((a, oe) :: pn)) (b₀ :: ss) (ts a cls d)) (r : ClOk X hs l) :
      ClOk X (.ExceptHandler (some (.Name x np)) none (b₀ :: ss) p2 :: hs) (⟨c, none, ts⟩ :: l)
  | named {x n : Str} {i : Nat} {c : Value} {ts : Addr → Value → Option Addr → TS} {b₀ : Stmt} {ss : List Stmt} {np p2 : Pos} {hs : List ExceptHandler} {l : List Cl} (hi : X.N[i]? = some n) (hln : X.env.kindOf n = some .local) (hc : Names X x c)
      (hsu : ∀ (a : Addr) (oe : Obj) (cls : Value) (d : Option Addr) (pn : List (Addr × Obj)), Zc cls d oe → (∃ vs, oe.data = .fields vs) → PSs (X.suite a ((a, oe) :: pn)) (b₀ :: ss) (ts a cls d)) (r : ClOk X hs l) :
      ClOk X (.ExceptHandler (some (.Name x np)) (some n) (b₀ :: ss) p2 :: hs) (⟨c, some i, ts⟩ :: l)
section
variable {X : Cx} {body : List Stmt} {c₀ : ExceptHandler} {cs : List ExceptHandler} {l : List Cl} {pos : Pos} {tb : WX → TS} {Wout : WX}
theorem ps_try_cl (hst : X.stack = X.env :: X.outer) (hfm : X.env.frame = some X.env.locals) (hN : X.N.Nodup) (tk : Takes X Wout)
    (hb : ∀ (W : WX) (pn : List (Addr × Obj)) (xe : Value → Shared → Prop), Takes (X.tr pn xe) W → PassesOwn (model X.prog X.w) X.A X.env xe → PSs (X.tr pn xe) body (tb W))
    (hh : ClOk X (c₀ :: cs) l) : PS X (.Try body (c₀ :: cs) [] [] pos) (fun D σ H => tb (wCl X.K Wout D l) D σ H) := by
  refine ⟨fun pz s σ H D I h => ?_⟩
  have okX := I.ok
  have hfrm : X.A.frames = some (X.env :: X.outer) := by rw [okX.frames, hst]
  refine wpAny_Try_except ?_
  have run := (hb (wCl X.K Wout D l) (X.pn ++ pz)
    (fun e t1 => wpAny (model X.prog X.w) X.A (noteFrame e X.env) (fun _ t2 => wpAny (model X.prog X.w) X.A (setFlight e none)
      (fun _ t3 => wpAny (model X.prog X.w) X.A (handleBy e X.env (c₀ :: cs)) (SP X pz D) X.xe t3) X.xe t2) X.xe t1)
    (fun u sx xx => ?_) PassesOwn.looking).run [] s σ H D (I.toTry _) h
  · refine wpAny_mono run (fun f s1 hq => ?_) (fun e s1 he => he)
    cases f with
    | next =>
      obtain ⟨τ, G, J, q⟩ := hq
      exact wpAny_execs_nil ⟨τ, G, J.ofTry okX, q⟩
    | brk =>
      obtain ⟨τ, G, J, q⟩ := hq
      exact ⟨τ, G, J.ofTry okX, q⟩
    | cont =>
      obtain ⟨τ, G, J, q⟩ := hq
      exact ⟨τ, G, J.ofTry okX, q⟩
    | ret u =>
      obtain ⟨v, τ, G, J, r, q⟩ := hq
      exact ⟨v, τ, G, J.ofTry okX, r, q⟩
  · obtain ⟨a, B, sI, pq, τ, G, cls, d, rfl, Jt, nb, up, sky, na, os, ag, wish⟩ := xx
    have J : Inv X pz τ G sI := Jt.ofTry okX
    have sky1 : Sky B (X.env :: X.outer) a (Zc cls d) X.env.locals sx.heap := by rw [← hst]; exact sky
    show wpAny (model X.prog X.w) X.A (noteFrame (.ref a) X.env) _ _ _
    refine Sky.land Zc.steady hfrm hfm sky1 fun hA flA upA => ?_
    have JA : Inv X pz τ G { sx with heap := hA } := J.landed nb flA.1 (up.trans upA) os ag
    obtain ⟨oA, vA, heA, hzA, hdA⟩ := flA.there
    have apart : ∀ {hp : Heap} {o : Obj} {vs : Array Value}, hp.FunFrames B (X.env :: X.outer) → hp.get? a = some o → o.data = .fields vs → a ∉ frs (X.env :: X.outer) := fun {hp o vs} ff e dd hm => by
      obtain ⟨_, ob, eb, hnf⟩ := ff.mem hm
      rw [e] at eb
      cases eb
      exact hnf _ dd
    have nfr := apart flA.2.2.1 heA hdA
    have nL : a ≠ X.env.locals := fun z => nfr (List.mem_filterMap.mpr ⟨X.env, List.mem_cons_self, by rw [hfm, z]⟩)
    have nF : a ∉ X.fs := fun hm => by
      obtain ⟨e, he, q⟩ := List.mem_filterMap.mp hm
      exact nfr (List.mem_filterMap.mpr ⟨e, List.mem_cons_of_mem _ he, q⟩)
    have SA := JA.suite heA hdA na nL nF
    have LT : PySem.W.Looks (model X.prog X.w) hA (typeOf (.ref a)) cls := fun A Q E st k q => wpAny_typeOf_ref (k _ _ heA) (by rw [hzA.1]; exact q)
    have test : ∀ {x : Str} {c : Value} {np : Pos} {Q : Value → Shared → Prop} {E : Value → Shared → Prop}, Names X x c → Q c { sx with heap := hA } →
        wpAny (model X.prog X.w) (X.A.mark (some (.ref a))) (eval (.Name x np) X.env) Q E { sx with heap := hA } := fun {x c np Q E} hc q => by
      obtain ⟨hg, hdbg, hm | ⟨hm, hv, hnn⟩⟩ := hc
      · exact ld_glob (X := X.suite a ((a, oA) :: (X.pn ++ pz))) SA hg hm q hdbg
      · exact ld_blt (X := X.suite a ((a, oA) :: (X.pn ++ pz))) SA hg hm hv q hnn hdbg
    have go : ∀ {hs2 : List ExceptHandler} {l2 : List Cl}, ClOk X hs2 l2 → wCl X.K Wout D l2 cls d τ G → wpAny (model X.prog X.w) X.A (handleBy (.ref a) X.env hs2) (SP X pz D) X.xe { sx with heap := hA } := by
      intro hs2 l2 hk
      induction hk with
      | nil =>
        intro wish2
        refine wpAny_handleBy_nil ?_
        obtain ⟨k1, k2, k3, oe, vs, T, oT, ts2, he, hz, hd, h1, hr⟩ := id flA
        unfold PySem.passOn
        refine wpAny_bind (wpAny_field he hd h1 ?_)
        rw [if_neg (show ¬ ((Value.ref T == Value.none) = true) from by simp)]
        have fin : wpAny (model X.prog X.w) X.A (setFlight (.ref a) X.env.frame) (fun _ s4 => wpAny (model X.prog X.w) X.A (throw (.ref a) : Sem Flow) (SP X pz D) X.xe s4) X.xe { sx with heap := hA } := by
          rw [hfm]
          refine HandSPX.setFlight_upZ flA fun hB hhB upB => wpAny_throw (tk _ _ ?_)
          exact ⟨a, B, sI, pz, τ, G, cls, d, rfl, J, nb, (up.trans upA).trans upB, .inr (.inr (by rw [hst]; exact hhB)), na, os, ag, wish2⟩
        first
          | exact wpAny_bind (wpAny_pure (wpAny_bind fin))
          | exact wpAny_bind fin
      | @bare x c ts b₀ ss np p2 hs3 l3 hc hsu r ih =>
        intro wish2
        obtain ⟨b, hb1, hyes, hno⟩ := wish2
        refine wpAny_handleBy_cons (codeAny_handlers_test ?_) (by intro q; cases q)
        have LM := PySem.W.exm_one (M := model X.prog X.w) (JA.kIn) LT hb1
        refine test hc (LM.here ?_)
        cases b with
        | true =>
          refine codeAny_handlers_suite ?_
          refine HandSPX.lands_againZ flA fun hB flB upB => ?_
          have JB : Inv X pz τ G { sx with heap := hB } := J.landed nb flB.1 ((up.trans upA).trans upB) os ag
          obtain ⟨oB, vB, heB, hzB, hdB⟩ := flB.there
          have SB := JB.suite heB hdB na nL nF
          refine wpAny_mono ((hsu a oB cls d (X.pn ++ pz) hzB ⟨_, hdB⟩).run [] _ _ G _ SB (hyes rfl a na)) (fun f s6 hq => ?_) (fun _ _ z => False.elim z)
          cases f with
          | next =>
            obtain ⟨τ6, G6, S6, q6⟩ := hq
            exact ⟨_, _, S6.unsuite okX, q6⟩
          | brk =>
            obtain ⟨τ6, G6, S6, q6⟩ := hq
            exact ⟨_, _, S6.unsuite okX, q6⟩
          | cont =>
            obtain ⟨τ6, G6, S6, q6⟩ := hq
            exact ⟨_, _, S6.unsuite okX, q6⟩
          | ret u =>
            obtain ⟨v6, τ6, G6, S6, r6, q6⟩ := hq
            exact ⟨_, _, _, S6.unsuite okX, r6, q6⟩
        | false =>
          show wpAny _ X.A (handleBy (.ref a) X.env hs3) _ _ _
          exact ih (hno rfl)
      | @named x n i c ts b₀ ss np p2 hs3 l3 hi hln hc hsu r ih =>
        intro wish2
        obtain ⟨b, hb1, hyes, hno⟩ := wish2
        have hloc : Loc X.env.scope n := .inl hln
        refine wpAny_handleBy_cons (codeAny_handlers_test ?_) (by intro q; cases q)
        have LM := PySem.W.exm_one (M := model X.prog X.w) (JA.kIn) LT hb1
        refine test hc (LM.here ?_)
        cases b with
        | true =>
          refine codeAny_handlers_suite_as ?_
          refine HandSPX.lands_againZ flA fun hB flB upB => ?_
          have JB : Inv X pz τ G { sx with heap := hB } := J.landed nb flB.1 ((up.trans upA).trans upB) os ag
          obtain ⟨oB, vB, heB, hzB, hdB⟩ := flB.there
          have SB := JB.suite heB hdB na nL nF
          refine store_ok (X := X.suite a ((a, oB) :: (X.pn ++ pz))) (v := .ref a) SB hN hi hloc rfl (fun s5 S5 => ?_) (.inr hln)
          refine wpAny_mono ((hsu a oB cls d (X.pn ++ pz) hzB ⟨_, hdB⟩).run [] s5 _ G _ S5 (hyes rfl a na)) (fun f s6 hq => ?_) (fun _ _ z => False.elim z)
          have gone : ∀ {τ6 : L2.St} {G6 : Hp} {R : Shared → Prop}, Inv (X.suite a ((a, oB) :: (X.pn ++ pz))) [] τ6 G6 s6 → (∀ s7, Inv X pz (τ6.set i none) G6 s7 → R s7) →
              wpAny (model X.prog X.w) X.A (do bindName X.env n .none; unbindBehindTheSuite X.env n p2) (fun _ s7 => R s7) X.xe s6 := fun {τ6 G6 R} S6 hR => gone_ok (S6.unsuite okX) hN hi hln hR
          cases f with
          | next =>
            obtain ⟨τ6, G6, S6, q6⟩ := hq
            exact gone S6 fun s7 J7 => ⟨_, _, J7, q6⟩
          | brk =>
            obtain ⟨τ6, G6, S6, q6⟩ := hq
            exact gone S6 fun s7 J7 => ⟨_, _, J7, q6⟩
          | cont =>
            obtain ⟨τ6, G6, S6, q6⟩ := hq
            exact gone S6 fun s7 J7 => ⟨_, _, J7, q6⟩
          | ret u =>
            obtain ⟨v6, τ6, G6, S6, r6, q6⟩ := hq
            exact gone S6 fun s7 J7 => ⟨_, _, _, J7, r6, q6⟩
        | false =>
          show wpAny _ X.A (handleBy (.ref a) X.env hs3) _ _ _
          exact ih (hno rfl)
    exact go hh wish
end
end Q

namespace Q
open PySem PySem.Spec PyProof.Rows L2
/-- a def of the module, as its callers need it -/
structure Cal (P : Program) (w : World) (K : PySem.W.Frag) (mg : Str → Option Value) (base : Heap) (CX : CXT) (x : Str) (k : Nat) (ps : List Str) (sp : Sp) : Prop where
  ex : ∃ (f : Addr) (fd : FuncData), FnOk P w K mg base CX k f fd ps sp ∧ mg x = some (.ref f) ∧ PySem.W.keepIn K (.ref f) = true ∧ Binds K fd ps []
/-- a class of the module with its __init__ -/
structure Mak (P : Program) (w : World) (K : PySem.W.Frag) (mg : Str → Option Value) (base : Heap) (CX : CXT) (x : Str) (C : Addr) (k : Nat) (ps : List Str) (sp : Sp) : Prop where
  ex : ∃ (f : Addr) (fd : FuncData), Mk K C f ∧ FnOk P w K mg base CX k f fd ps sp ∧ mg x = some (.ref C) ∧ Binds K fd ps []
/-- an error class of the module with its __init__ -/
structure Err (P : Program) (w : World) (K : PySem.W.Frag) (mg : Str → Option Value) (base : Heap) (x : Str) (C : Addr) (k : Nat) (ps : List Str) (sp : Sp) : Prop where
  cl : OexC K C
  ex : ∃ (f : Addr) (fd : FuncData), PySem.W.findIn K (.ref C) "__init__" = some (some (.ref f)) ∧ PySem.W.typeIn K (.ref f) = some (.type "function") ∧ FnOk P w K mg base CX0 k f fd ps sp ∧ mg x = some (.ref C) ∧ Binds K fd ps []
section
variable {X : Cx} {CX : CXT} {k : Nat} {C : Addr} {ps : List Str} {sp : Sp} {E : XK} {x : Str} {p pos : Pos} {e : Expr} {es : List Expr} {t : TA}
theorem pe_cal (F : Cal X.prog X.w X.K X.mg X.base CX x k ps sp) (hr : Room k X.A) (hg : Gl X x) (hx : Passes CX X E) (ha : PA X (e :: es) t) (hdb : (x == ("__debug__" : Str)) = false := by decide)
    (he : starEach (e :: es) X.env = (false, eval e X.env) :: starEach es X.env := by rfl) (hpl : (backTo pos (starEach es X.env)).any (·.1) = false := by rfl) : PE X (.Call (.Name x p) (e :: es) [] pos) (tCall sp [] E t) := by
  obtain ⟨f, fd, G, hm, hk, hb⟩ := F.ex
  exact pe_call G hr hg hm hk hb .nil hx ha hdb he hpl
theorem pe_cal0 (F : Cal X.prog X.w X.K X.mg X.base CX x k ps sp) (hr : Room k X.A) (hg : Gl X x) (hx : Passes CX X E) (hdb : (x == ("__debug__" : Str)) = false := by decide) : PE X (.Call (.Name x p) [] [] pos) (tCall sp [] E tNil) := by
  obtain ⟨f, fd, G, hm, hk, hb⟩ := F.ex
  exact pe_call0 G hr hg hm hk hb .nil hx hdb
theorem pe_mak (F : Mak X.prog X.w X.K X.mg X.base CX x C k ps sp) (hr : Room (k + 1) X.A) (hg : Gl X x) (hx : Passes CX X E) (ha : PA X (e :: es) t) (hdb : (x == ("__debug__" : Str)) = false := by decide)
    (he : starEach (e :: es) X.env = (false, eval e X.env) :: starEach es X.env := by rfl) (hpl : (backTo pos (starEach es X.env)).any (·.1) = false := by rfl) : PE X (.Call (.Name x p) (e :: es) [] pos) (tMake C sp [] E t) := by
  obtain ⟨f, fd, M, G, hm, hb⟩ := F.ex
  exact pe_make M G hr hg hm hb .nil hx ha hdb he hpl
theorem pmk_err (F : Err X.prog X.w X.K X.mg X.base x C k ps sp) (hr : Room (k + 1) X.A) (hg : Gl X x) (ha : PA X (e :: es) t) (hdb : (x == ("__debug__" : Str)) = false := by decide)
    (he : starEach (e :: es) X.env = (false, eval e X.env) :: starEach es X.env := by rfl) (hpl : (backTo pos (starEach es X.env)).any (·.1) = false := by rfl) : PMk X (.Call (.Name x p) (e :: es) [] pos) (tMkO C sp [] t) := by
  obtain ⟨f, fd, iC, tI, G, hm, hb⟩ := F.ex
  exact pmk_oex F.cl iC tI G hr hb .nil pass0 hg hm ha hdb he hpl
end
theorem at0 {x : V} {xs : List V} : atI (x :: xs) 0 = some x := atI_nat (xs := x :: xs) (j := 0) rfl
theorem at1 {x y : V} {xs : List V} : atI (x :: y :: xs) 1 = some y := atI_nat (xs := x :: y :: xs) (j := 1) rfl
theorem at2 {x y z : V} {xs : List V} : atI (x :: y :: z :: xs) 2 = some z := atI_nat (xs := x :: y :: z :: xs) (j := 2) rfl
/-- the three numbers of a source -/
def src (a b c : Int) : HO := .lst [.int a, .int b, .int c]
def spSource : Sp := fun vs H Q _ => ∃ n : Int, vs = [.int n] ∧ ∀ (p : Addr) (a b c : Int), H p = none → Q (.ref p) (upd H p (src a b c))
/-- all but what stands at S is as it was -/
def Ks (S : Addr) (H H' : Hp) : Prop := ∀ b o, H b = some o → b ≠ S → H' b = some o
def HasSrc (S : Addr) (H : Hp) : Prop := ∃ a b c : Int, H S = some (src a b c)
theorem Ks.refl (S : Addr) (H : Hp) : Ks S H H := fun _ _ h _ => h
theorem Ks.trans {S : Addr} {H H1 H2 : Hp} (a : Ks S H H1) (b : Ks S H1 H2) : Ks S H H2 := fun c o h n => b c o (a c o h n) n
theorem Ks.of {S : Addr} {H H' : Hp} (e : Same H H') : Ks S H H' := fun b o h _ => e b o h
theorem Ks.upd {S : Addr} {H : Hp} {o : HO} : Ks S H (L2.upd H S o) := fun b u h n => by
  rw [upd_ne n]
  exact h
/-- a thing that H does not know may change -/
theorem Ks.mut {S p : Addr} {H H' : Hp} {o : HO} (e : Ks S H H') (h : H p = none) : Ks S H (L2.upd H' p o) := fun b u hb n => by
  rw [upd_ne (ne_of_none hb h)]
  exact e b u hb n
theorem Same.new {H : Hp} {p : Addr} {o : HO} (h : H p = none) : Same H (L2.upd H p o) := fun b u hb => by
  rw [upd_ne (ne_of_none hb h)]
  exact hb
theorem Same.mut {H H' : Hp} {p : Addr} {o : HO} (e : Same H H') (h : H p = none) : Same H (L2.upd H' p o) := fun b u hb => by
  rw [upd_ne (ne_of_none hb h)]
  exact e b u hb
theorem Ks.free {S p : Addr} {H H' : Hp} (e : Ks S H H') (hs : HasSrc S H') (h : H' p = none) : H p = none := by
  obtain ⟨a, b, c, hS⟩ := hs
  cases q : H p with
  | none => rfl
  | some o =>
    by_cases z : p = S
    · rw [z, hS] at h
      cases h
    · rw [e p o q z] at h
      cases h
def spDraw : Sp := fun vs H Q _ => ∃ (S : Addr) (m : Int), vs = [.ref S, .int m] ∧ HasSrc S H ∧ 0 < m ∧ m < 1073741824 ∧
  ∀ (r : Int) (H' : Hp), 0 ≤ r → r < m → HasSrc S H' → Ks S H H' → Q (.int r) H'
def spPick (K : PySem.W.Frag) : Sp := fun vs H Q _ => ∃ (S p : Addr) (xs : List V), vs = [.ref S, .ref p] ∧ HasSrc S H ∧ H p = some (.lst xs) ∧ p ≠ S ∧ 0 < xs.length ∧ xs.length < 1000000 ∧
  ∀ (x : V) (H' : Hp), x ∈ xs → HasSrc S H' → Ks S H H' → Q x H'
end Q

namespace Q
open PySem PySem.Spec PyProof.Rows L2
/-- a list (true) or a tuple (false) that is read -/
def Sq (b : Bool) (K : PySem.W.Frag) (H : Hp) (a : Addr) (xs : List V) : Prop := match b with
  | true => SqL K H a xs
  | false => SqT K H a xs
theorem Sq.l {K : PySem.W.Frag} {H : Hp} {a : Addr} {xs : List V} (h : H a = some (.lst xs)) : Sq true K H a xs := SqL.of h
theorem Sq.t {K : PySem.W.Frag} {H : Hp} {a : Addr} {xs : List V} (h : H a = some (.tup xs)) : Sq false K H a xs := SqT.of h
theorem Sq.same {b : Bool} {K : PySem.W.Frag} {H H' : Hp} {a : Addr} {xs : List V} (e : Same H H') (h : Sq b K H a xs) : Sq b K H' a xs := by
  cases b with
  | true => exact e.seq h
  | false =>
    rcases h with (h | ⟨o, h⟩) | h
    · exact .inl (.inl (e _ _ h))
    · exact .inl (.inr ⟨o, e _ _ h⟩)
    · exact .inr h
theorem Sq.or {b : Bool} {K : PySem.W.Frag} {H : Hp} {a : Addr} {xs : List V} (h : Sq b K H a xs) : SqL K H a xs ∨ SqT K H a xs := by
  cases b with
  | true => exact .inl h
  | false => exact .inr h
def iSq (b : Bool) (K : PySem.W.Frag) (tl : TE) : TI := match b with
  | true => iList K tl
  | false => iTup K tl
def Itq (b : Bool) (K : PySem.W.Frag) (a : Addr) : It := match b with
  | true => Itl K a
  | false => Itt K a
theorem pi_sq (b : Bool) {X : Cx} {tg e : Expr} {tl : TE} (hl : PE X e tl) : PI X tg e (iSq b X.K tl) := by
  cases b with
  | true => exact pi_list hl
  | false => exact pi_tup hl
/-- the reading of a for over a list or a tuple -/
theorem sq_for {b : Bool} {K : PySem.W.Frag} {a : Addr} {xs : List V} {tl : TE} {g : TG} {tb : TS} {D : Ends} {σ : L2.St} {H : Hp} (Pv : Nat → L2.St → Hp → Prop) (ht : ∀ R : V → Hp → Prop, R (.ref a) H → tl σ H R) (hx : Sq b K H a xs) (h0 : Pv 0 σ H) (hl : ∀ i σ H, i ≤ xs.length → Pv i σ H → Sq b K H a xs)
    (hs : ∀ i x σ H, xs[i]? = some x → Pv i σ H → g x σ H fun σ2 H2 => tb { D with nx := Pv (i + 1), ct := Pv (i + 1), bk := D.nx } σ2 H2) (hd : ∀ σ H, Pv xs.length σ H → D.nx σ H) : tFor (iSq b K tl) g tb D σ H := by
  cases b with
  | true =>
    refine ht _ ?_
    exact ⟨a, rfl, ⟨xs, hx⟩, for_list (K := K) (a := a) (xs := xs) Pv h0 hl hs hd⟩
  | false =>
    refine ht _ ?_
    exact ⟨a, rfl, ⟨xs, hx⟩, for_tup (K := K) (a := a) (xs := xs) Pv h0 hl hs hd⟩
/-! ### error classes with one field, with two -/
def spInit1 (C : Addr) (f1 : Str) : Sp := fun vs H Q _ => ∃ (a : Addr) (v1 : V), vs = [.ref a, v1] ∧ H a = some (exo a C none) ∧ ∀ d, H d = none → d ≠ a → Q .non (upd (upd H d (exd d [(f1, v1)])) a (exo a C (some d)))
def spInit2 (C : Addr) (f1 f2 : Str) : Sp := fun vs H Q _ => ∃ (a : Addr) (v1 v2 : V), vs = [.ref a, v1, v2] ∧ H a = some (exo a C none) ∧
  ∀ d, H d = none → d ≠ a → Q .non (upd (upd (upd H d (exd d [(f1, v1)])) a (exo a C (some d))) d (exd d [(f2, v2), (f1, v1)]))
theorem let_go {H : Hp} {a d : Addr} {o1 o2 o3 : HO} (ha : H a = none) (hd : H d = none) (ne : d ≠ a) : upd (del (upd (upd H d o1) a o2) a) d o3 = upd H d o3 := by
  funext b
  by_cases h1 : b = d
  · rw [h1, upd_same, upd_same]
  · rw [upd_ne h1, upd_ne h1]
    by_cases h2 : b = a
    · rw [h2, del_same, ha]
    · rw [del_ne h2, upd_ne h2, upd_ne h1]
theorem upd_twice {H : Hp} {a d : Addr} {o1 o2 o3 : HO} (ne : d ≠ a) : upd (upd (upd H d o1) a o2) d o3 = upd (upd H d o3) a o2 := by
  funext b
  by_cases h1 : b = d
  · rw [h1, upd_same, upd_ne ne, upd_same]
  · rw [upd_ne h1]
    by_cases h2 : b = a
    · rw [h2, upd_same, upd_same]
    · rw [upd_ne h2, upd_ne h2, upd_ne h1, upd_ne h1]
theorem upd_out {H : Hp} {a : Addr} {o1 o2 : HO} {d : Addr} (ne : d ≠ a) : upd (upd H a o1) d o2 = upd (upd H d o2) a o1 := by
  funext b
  by_cases h1 : b = d
  · rw [h1, upd_same, upd_ne ne, upd_same]
  · rw [upd_ne h1]
    by_cases h2 : b = a
    · rw [h2, upd_same, upd_same]
    · rw [upd_ne h2, upd_ne h2, upd_ne h1]
/-- what raising an error of one field asks -/
theorem mk1 {C : Addr} {f1 : Str} {v1 : V} {H : Hp} {R : XK} (h : ∀ d, H d = none → R (.ref C) (some d) (upd H d (.xd [(f1, v1)]))) :
    ∀ a, H a = none → spInit1 C f1 (.ref a :: ([v1] ++ [])) (upd H a (exo a C none))
      (fun v H2 => v = .non ∧ ∃ (d : Addr) (fs : List (Str × V)), H2 a = some (exo a C (some d)) ∧ H2 d = some (exd d fs) ∧ H d = none ∧ R (.ref C) (some d) (upd (del H2 a) d (.xd fs))) (fun _ _ _ => False) := by
  intro a ha
  refine ⟨a, v1, rfl, upd_same, fun d hd ne => ⟨rfl, d, [(f1, v1)], upd_same, ?_, ?_, ?_⟩⟩
  · rw [upd_ne ne, upd_same]
  · rw [upd_ne ne] at hd
    exact hd
  · rw [upd_ne ne] at hd
    have e : upd (upd (upd H a (exo a C none)) d (exd d [(f1, v1)])) a (exo a C (some d)) = upd (upd H d (exd d [(f1, v1)])) a (exo a C (some d)) := by
      rw [upd_out ne, upd_upd]
    rw [e, let_go ha hd ne]
    exact h d hd
theorem mk2 {C : Addr} {f1 f2 : Str} {v1 v2 : V} {H : Hp} {R : XK} (h : ∀ d, H d = none → R (.ref C) (some d) (upd H d (.xd [(f2, v2), (f1, v1)]))) :
    ∀ a, H a = none → spInit2 C f1 f2 (.ref a :: ([v1, v2] ++ [])) (upd H a (exo a C none))
      (fun v H2 => v = .non ∧ ∃ (d : Addr) (fs : List (Str × V)), H2 a = some (exo a C (some d)) ∧ H2 d = some (exd d fs) ∧ H d = none ∧ R (.ref C) (some d) (upd (del H2 a) d (.xd fs))) (fun _ _ _ => False) := by
  intro a ha
  refine ⟨a, v1, v2, rfl, upd_same, fun d hd ne => ⟨rfl, d, [(f2, v2), (f1, v1)], ?_, upd_same, ?_, ?_⟩⟩
  · rw [upd_ne (Ne.symm ne), upd_same]
  · rw [upd_ne ne] at hd
    exact hd
  · rw [upd_ne ne] at hd
    have e : upd (upd (upd (upd H a (exo a C none)) d (exd d [(f1, v1)])) a (exo a C (some d))) d (exd d [(f2, v2), (f1, v1)]) = upd (upd H d (exd d [(f2, v2), (f1, v1)])) a (exo a C (some d)) := by
      rw [upd_twice ne, upd_out ne, upd_upd]
    rw [e, let_go ha hd ne]
    exact h d hd
/-! ### memories -/
/-- the first thing that is wrong with sizes: what and how many -/
def badSizes (ns : List Int) : Option (Str × Int) :=
  if 1 ≤ (ns.length : Int) ∧ (ns.length : Int) ≤ 6 then (ns.find? fun n => !decide (1 ≤ n ∧ n ≤ 4)).map fun n => (("words" : Str), n) else some ("lines", (ns.length : Int))
def spChkSizes (K : PySem.W.Frag) (CB : Addr) : Sp := fun vs H Q E => ∃ (b : Bool) (a : Addr) (ns : List Int), vs = [.ref a] ∧ Sq b K H a (ns.map V.int) ∧
  (∀ w n, badSizes ns = some (w, n) → ∀ d, H d = none → E (.ref CB) (some d) (upd H d (.xd [("count", .int n), ("what", .str w)]))) ∧ (badSizes ns = none → Q .non H)
/-- a memory at m (of the class at C): its sizes -/
def IsMem (C : Addr) (H : Hp) (m : Addr) (ns : List Int) : Prop := ∃ dx t, H m = some (.ins C dx [("sizes", .ref t)]) ∧ H t = some (.tup (ns.map V.int))
/-- Memory.__init__: the instance at m is new; a tuple of the sizes, new or the very one that is passed -/
def spMemInit (K : PySem.W.Frag) (CB CM : Addr) : Sp := fun vs H Q E => ∃ (b : Bool) (m dx a : Addr) (ns : List Int), vs = [.ref m, .ref a] ∧ H m = some (.ins CM dx []) ∧ Sq b K H a (ns.map V.int) ∧ a ≠ m ∧
  (∀ w n, badSizes ns = some (w, n) → ∀ d, H d = none → E (.ref CB) (some d) (upd H d (.xd [("count", .int n), ("what", .str w)]))) ∧
  (badSizes ns = none → (b = true → ∀ t, H t = none → Q .non (upd (upd H t (.tup (ns.map V.int))) m (.ins CM dx [("sizes", .ref t)]))) ∧ (b = false → Q .non (upd H m (.ins CM dx [("sizes", .ref a)]))))
end Q

namespace Q
open PySem PySem.Spec PyProof.Rows L2
abbrev rLe : R2 := rI0 fun i j => .bl (decide (i ≤ j))
abbrev rLt : R2 := rI0 fun i j => .bl (decide (i < j))
/-- lo <= n <= hi as a test -/
theorem a_lele {lo n hi : Int} {ta tb tc : TE} {σ : L2.St} {H : Hp} (ha : Val ta σ H (.int lo)) (hb : Val tb σ H (.int n)) (hc : Val tc σ H (.int hi)) : Ans (tTest (tChain rLe rLe ta tb tc)) σ H (decide (lo ≤ n ∧ n ≤ hi)) := by
  intro Q q
  refine ha _ ?_
  refine hb _ ?_
  refine ⟨_, _, rfl, rfl, _, rfl, ?_⟩
  by_cases h1 : lo ≤ n
  · rw [decide_eq_true h1]
    refine iteT ?_
    refine hc _ ?_
    refine ⟨_, _, rfl, rfl, _, rfl, ?_⟩
    have e : decide (lo ≤ n ∧ n ≤ hi) = decide (n ≤ hi) := by
      by_cases h2 : n ≤ hi
      · rw [decide_eq_true h2, decide_eq_true ⟨h1, h2⟩]
      · rw [decide_eq_false h2, decide_eq_false (fun z => h2 z.2)]
    rw [← e]
    exact q
  · rw [decide_eq_false h1]
    refine iteF ⟨_, rfl, ?_⟩
    have e : decide (lo ≤ n ∧ n ≤ hi) = false := decide_eq_false (fun z => h1 z.1)
    rw [← e]
    exact q
theorem a_lelt {lo n hi : Int} {ta tb tc : TE} {σ : L2.St} {H : Hp} (ha : Val ta σ H (.int lo)) (hb : Val tb σ H (.int n)) (hc : Val tc σ H (.int hi)) : Ans (tTest (tChain rLe rLt ta tb tc)) σ H (decide (lo ≤ n ∧ n < hi)) := by
  intro Q q
  refine ha _ ?_
  refine hb _ ?_
  refine ⟨_, _, rfl, rfl, _, rfl, ?_⟩
  by_cases h1 : lo ≤ n
  · rw [decide_eq_true h1]
    refine iteT ?_
    refine hc _ ?_
    refine ⟨_, _, rfl, rfl, _, rfl, ?_⟩
    have e : decide (lo ≤ n ∧ n < hi) = decide (n < hi) := by
      by_cases h2 : n < hi
      · rw [decide_eq_true h2, decide_eq_true ⟨h1, h2⟩]
      · rw [decide_eq_false h2, decide_eq_false (fun z => h2 z.2)]
    rw [← e]
    exact q
  · rw [decide_eq_false h1]
    refine iteF ⟨_, rfl, ?_⟩
    have e : decide (lo ≤ n ∧ n < hi) = false := decide_eq_false (fun z => h1 z.1)
    rw [← e]
    exact q
/-- len of a list or a tuple -/
theorem v_len {b : Bool} {K : PySem.W.Frag} {te : TE} {σ : L2.St} {H : Hp} {p : Addr} {xs : List V} (ht : Val te σ H (.ref p)) (h : Sq b K H p xs) :
    Val (tCB (fun xs H Q => ∃ p ys, xs = [.ref p] ∧ (SqL K H p ys ∨ SqT K H p ys) ∧ Q (.int ys.length) H) (tCons te tNil)) σ H (.int xs.length) := by
  intro Q q
  refine ht _ ?_
  exact ⟨p, xs, rfl, h.or, q⟩
/-- an if whose test is known by now -/
theorem s_if {c : TT} {t u : TS} {D : Ends} {σ : L2.St} {H : Hp} {b : Bool} (h : Ans c σ H b) (h1 : b = true → t D σ H) (h2 : b = false → u D σ H) : tIfS c t u D σ H := by
  cases b with
  | true => exact st_yes h (h1 rfl)
  | false => exact st_no h (h2 rfl)
theorem find_none_take {ns : List Int} {p : Int → Bool} (h : ∀ n ∈ ns, p n = false) : ns.find? p = none := List.find?_eq_none.mpr fun n hn => by rw [h n hn]; decide
theorem find_at {ns : List Int} {p : Int → Bool} {i : Nat} {n : Int} (hi : ns[i]? = some n) (hp : p n = true) (hb : ∀ j m, j < i → ns[j]? = some m → p m = false) : ns.find? p = some n := by
  induction ns generalizing i with
  | nil => simp at hi
  | cons a r ih =>
    cases i with
    | zero =>
      simp at hi
      subst hi
      simp [List.find?, hp]
    | succ i =>
      have ha : p a = false := hb 0 a (Nat.succ_pos i) rfl
      have hi' : r[i]? = some n := by simpa using hi
      rw [List.find?_cons, ha]
      exact ih hi' fun j m hj hm => hb (j + 1) m (Nat.succ_lt_succ hj) (by simpa using hm)
theorem map_at {ns : List Int} {i : Nat} {x : V} (h : (ns.map V.int)[i]? = some x) : ∃ n, ns[i]? = some n ∧ x = V.int n := by
  rw [List.getElem?_map] at h
  cases e : ns[i]? with
  | none =>
    rw [e] at h
    cases h
  | some n =>
    rw [e] at h
    exact ⟨n, rfl, (Option.some.inj h).symm⟩
theorem g_name {i : Nat} {v : V} {σ : L2.St} {H : Hp} {R : L2.St → Hp → Prop} (q : R (σ.set i (some v)) H) : gName i v σ H R := q
theorem nd_t {p : Prop} [Decidable p] (h : (!decide p) = true) : ¬ p := by
  intro z
  rw [decide_eq_true z] at h
  cases h
theorem nd_f {p : Prop} [Decidable p] (h : (!decide p) = false) : p := by
  by_cases z : p
  · exact z
  · rw [decide_eq_false z] at h
    cases h
end Q

namespace Q
open PySem PySem.Spec PyProof.Rows L2 LamX
section
variable {X : Cx} {pz : List (Addr × Obj)} {σ : L2.St} {H HZ : Hp} {s s1 : Shared}
/-- x() in the def that was handed the lambda; what leaves it is wished for at the slots as they stand at the call -/
theorem pe_actS {CXg : CXT} {Eg : XK} {Ng : List Str} {qg : Str} {sg : Scope} {g f c' : Addr} {cdg pm ctv : Value} {params : Arguments} {body : Expr} {scope : Scope} {k i : Nat} {a : Str} {pn : List (Addr × Obj)}
    {xe : Value → Shared → Prop} {W : WX} {tb : XK → TE} {p1 p2 : Pos}
    (I : Inv X pz σ H s) (L : LamS X.env.scope scope)
    (hf : s.heap.get? f = some (PySem.W.kla_obj "<lambda>" (X.env.qual ++ "<lambda>") params body scope (cloFrom X.env.cells scope.names []) pm c' ctv)) (hfn : H f = none) (hfr : f ∉ frs X.stack)
    (hbi : bindArgs (PySem.W.kla_fn "<lambda>" (X.env.qual ++ "<lambda>") params body scope (cloFrom X.env.cells scope.names []) pm (.ref c') ctv) ⟨[], []⟩ = pure [])
    (tk : Takes ((cxOf CXg X.prog X.w X.K X.mg X.base Ng qg sg g cdg X.A X.stack s H Eg).tr pn xe) W) (hr : Room (k + 1) (X.A.deeper (envOfC qg sg s.heap.objs.size g cdg)))
    (hbo : ∀ (E : XK) (A : Around) (outer : List Env) (s : Shared) (H : Hp), Room k (A.deeper (lamEnv X scope s.heap.objs.size f c')) → PE (lamCx X A outer s H E scope f c') body (tb E))
    (hN : Ng[i]? = some a) (hv : Vis sg a) (hd : (a == ("__debug__" : Str)) = false := by decide) (hcd : (a == ("__classdict__" : Str)) = false := by decide) :
    PE ((cxOf CXg X.prog X.w X.K X.mg X.base Ng qg sg g cdg X.A X.stack s H Eg).tr pn xe) (.Call (.Name a p1) [] [] p2)
      (fun τ G R => τ[i]? = some (some (.ref f)) ∧ G c' = some (CodeO c' (X.env.qual ++ "<lambda>")) ∧ tb (WE W τ) σ G R) := by
  refine ⟨fun pq sZ τ G R IZ h => ?_⟩
  obtain ⟨e1, e2, e3⟩ := h
  have callee := (pe_var (X := (cxOf CXg X.prog X.w X.K X.mg X.base Ng qg sg g cdg X.A X.stack s H Eg).tr pn xe) (pos := p1) (i := i) hN hv hd hcd).run pq sZ τ G (fun v H1 => v = .ref f ∧ H1 = G) IZ ⟨.ref f, e1, rfl, rfl⟩
  refine wpAny_Call_Name_kw (thn callee fun u s1 hh => ?_)
  obtain ⟨v, H1, I1, r1, ev, eH⟩ := hh
  subst ev
  rw [eH] at I1
  obtain rfl : u = Value.ref f := r1
  have here : s1.heap.get? f = some (PySem.W.kla_obj "<lambda>" (X.env.qual ++ "<lambda>") params body scope (cloFrom X.env.cells scope.names []) pm c' ctv) :=
    I1.base.keep f _ hf hfn hfr (fun z => nomatch (show f ∈ ([] : List Addr) from z))
  refine PySem.W.callWith_F0 ⟨_, _, _, _, here⟩ ?_
  have un1 : Un (frs X.stack) [] H G s.heap s1.heap := I1.base
  obtain ⟨⟨oc, vs, t, hoc, hdc, hvc⟩, _, _⟩ := I1.hok c' _ e2
  have rc : codeAny (model X.prog X.w) (X.A.deeper (envOfC qg sg s.heap.objs.size g cdg)) (.call (.ref f) ⟨[], []⟩) (CR (L2.CX X.prog X.w) (envOfC qg sg s.heap.objs.size g cdg :: X.stack) X.prog X.w G s1 R (WE W τ)) s1 := by
    refine PySem.W.kla_callFunE hr.depth here rfl L.co L.gen rfl ⟨c', oc, vs, t, rfl, hoc, hdc, hvc⟩ ?_
    rw [hbi]
    refine wpAny_pure (wpAny_newFunctionEnv (fun y hy => (L.own y hy).2) (fun y hy => absurd hy (by simp)) (fun hN1 hns hsb => ⟨I1.nolimit.fresh _ hsb, ?_⟩) L.kind)
    show codeAny _ _ (.expr body (lamEnv X scope s1.heap.objs.size f c')) _ _
    have kp : ∀ b o, s1.heap.get? b = some o → hN1.get? b = some o := fun b o e => hsb.extBut b o (Nat.ne_of_lt (Heap.lt_size e)) (Heap.get?_push_of_some _ e)
    have J : Inv (lamCx X (X.A.deeper (envOfC qg sg s.heap.objs.size g cdg)) (envOfC qg sg s.heap.objs.size g cdg :: X.stack) s1 G (WE W τ) scope f c') [] σ G
        { s1 with heap := hN1, toks := s1.toks + ([] : List (Str × Value)).length } := lam_start2 I L I1.env0 hr.hd un1 hns kp
    refine PySem.W.kla_codeExpr (wpAny_mono ((hbo (WE W τ) _ _ s1 G (hr.deeper _)).run [] _ _ G R J e3) (fun v sE hq => ?_) fun e sE hq => hq)
    obtain ⟨w1, H2, J2, rv, q⟩ := hq
    exact ⟨w1, H2, J2.os, J2.bare, J2.base, J2.hok, rv, q⟩
  refine wpAny_call (codeAny_mono rc fun r sE hq => ?_)
  cases r with
  | error e => exact passAt tk τ pq G s1 e sE I1 hq
  | ok fl =>
    cases fl with
    | ret u => exact I1.after hq
    | next => exact False.elim hq
    | brk => exact False.elim hq
    | cont => exact False.elim hq
end
/-- the def that calls what it got, once, by its only parameter; TT: what it makes of the lambda's reading -/
def Gives (X : Cx) (Ng : List Str) (x : Str) (sg : Scope) (g : Addr) (cdg : Value) (bg : List Stmt) (a : Str) (q : Str) (TT : (XK → Hp → VK → Prop) → Hp → VK → Prop) : Prop :=
  ∀ (f c' : Addr) (s : Shared) (H : Hp) (R : VK) (tl : XK → Hp → VK → Prop),
    (∀ (W : WX) (pn : List (Addr × Obj)) (xe : Value → Shared → Prop) (p1 p2 : Pos), Takes ((cxOf C8.CX0 X.prog X.w X.K X.mg X.base Ng x sg g cdg X.A X.stack s H C8.E0).tr pn xe) W →
      PE ((cxOf C8.CX0 X.prog X.w X.K X.mg X.base Ng x sg g cdg X.A X.stack s H C8.E0).tr pn xe) (.Call (.Name a p1) [] [] p2) (fun τ G R => τ[0]? = some (some (.ref f)) ∧ G c' = some (CodeO c' q) ∧ tl (WE W τ) G R)) →
    H c' = some (CodeO c' q) → TT tl H R →
    ∃ t, PSs (cxOf C8.CX0 X.prog X.w X.K X.mg X.base Ng x sg g cdg X.A X.stack s H C8.E0).nox bg t ∧ t { nx := fun _ H' => R .non H', rt := R } (L2.start Ng [.ref f]) H
section
variable {X : Cx}
theorem pe_lamS {T : List (Addr × Str)} {TT : (XK → Hp → VK → Prop) → Hp → VK → Prop} {x a : Str} {g c P : Addr} {k : Nat} {pg : Arguments} {bg : List Stmt} {sg : Scope} {dV kV doc pm cdv ct oc : Value} {an od : Option Addr} {osl : Array (Option Value)} {Ng : List Str}
    {params : Arguments} {body : Expr} {scope : Scope} {t : XK → TE} {p lpos pos : Pos} (hg : Gl X x) (hm : X.mg x = some (.ref g)) (hk : PySem.W.keepIn X.K (.ref g) = true)
    (lk : X.K.lookup g = some ⟨oc, od, .func (PySem.W.fnOf x x pg bg sg dV kV doc pm an cdv ct), osl⟩) (hcg : PySem.W.codeIn X.K cdv x = true)
    (hb : L2.Binds X.K (PySem.W.fnOf x x pg bg sg dV kV doc pm an cdv ct) [a] []) (Sg : FnScope Ng [a] sg) (hNg : Ng[0]? = some a) (hva : Vis sg a)
    (hG : Gives X Ng x sg g cdv bg a (X.env.qual ++ "<lambda>") TT)
    (TB : TabB X.base X.mg c P) (hcode : X.env.code = .ref c) (hmT : (P, X.env.qual ++ "<lambda>") ∈ T) (hu : ∀ p ∈ T, p.1 = P → p.2 = X.env.qual ++ "<lambda>") (hr : Room (k + 2) X.A) (L : LamS X.env.scope scope)
    (hdef : defaultsOf params X.env = ([], []))
    (hbi : ∀ (q : Str) (cl : List (Str × Addr)) (pm cv ctv : Value), bindArgs (PySem.W.kla_fn "<lambda>" q params body scope cl pm cv ctv) ⟨[], []⟩ = pure [])
    (hbo : ∀ (E : XK) (A : Around) (outer : List Env) (s : Shared) (H : Hp) (f c' : Addr), Room k (A.deeper (lamEnv X scope s.heap.objs.size f c')) → PE (lamCx X A outer s H E scope f c') body (t E))
    (hdb : (x == ("__debug__" : Str)) = false := by decide) (hd : (a == ("__debug__" : Str)) = false := by decide) (hcd : (a == ("__classdict__" : Str)) = false := by decide) :
    PE X (.Call (.Name x p) [.Lambda params body scope lpos] [] pos) (tLam T TT t) := by
  refine ⟨fun pz s σ H R I h => ?_⟩
  obtain ⟨hT, h2⟩ := h
  refine wpAny_Call_Name_kw (ld_glob I hg hm ?_ hdb)
  refine PySem.W.callWith_K (h₀ := X.base) I.ok.mod.kin hk ?_ (by rfl) (by rfl)
  show wpAny _ _ (spliced ((false, eval (.Lambda params body scope lpos) X.env) :: backTo pos (starEach [] X.env))) _ _ s
  refine Calls.spliced_cons (lam_make2 I TB hcode hmT hu hT hdef (L.has I.ok) fun f c' pm1 ctv H1 s1 I1 eN T1 hf hfn hfr hco => ?_)
  refine Calls.spliced_nil ⟨I1.kIn, ?_⟩
  have rc : codeAny (model X.prog X.w) X.A (.call (.ref g) ⟨[.ref f], []⟩) (CR C8.CX0 X.stack X.prog X.w H1 s1 R C8.E0) s1 := by
    refine run_ofS (N := Ng) (ps := [a]) (us := [.ref f]) (vs := [.ref f]) lk hcg Sg hr I1.env0 (hb s1 [.ref f] I1.kIn rfl) (.cons rfl .nil) rfl fun hr1 => ?_
    obtain ⟨t1, ht1, hq1⟩ := hG f c' s1 H1 R (fun E G Q' => t E σ G Q')
      (fun W pn xe p1 p2 tk => pe_actS (i := 0) I1 L hf hfn hfr (hbi _ _ _ _ _) tk hr1 (fun E A outer s H hr2 => hbo E A outer s H f c' hr2) hNg hva hd hcd) hco (h2 H1 eN T1)
    exact ⟨t1, ht1.nox, hq1⟩
  refine wpAny_call (codeAny_mono rc fun r s2 hq => ?_)
  cases r with
  | error e => exact (show False from hq).elim
  | ok fl =>
    cases fl with
    | ret u => exact I1.after hq
    | next => exact False.elim hq
    | brk => exact False.elim hq
    | cont => exact False.elim hq
end
end Q

namespace Q
open PySem PySem.Spec PyProof.Rows L2 LamX
/-- told of a call that ends well or in an error of the class at CB with two fields: ('ok', value), or ('count', what, count) -/
def TOut (CB : Addr) : (XK → Hp → VK → Prop) → Hp → VK → Prop := fun tl H R => ∀ (E' : XK) (R' : VK),
  (∀ (d : Addr) (w n : V) (H' : Hp), H' d = some (.xd [("count", n), ("what", w)]) → (∀ p, H' p = none → R (.ref p) (upd H' p (.tup [.str "count", w, n]))) → E' (.ref CB) (some d) H') →
  (∀ (v : V) (H1 : Hp), (∀ p, H1 p = none → R (.ref p) (upd H1 p (.tup [.str "ok", v]))) → R' v H1) → tl E' H R'
end Q

namespace Q
open PySem PySem.Spec PyProof.Rows L2 LamX
theorem Tabs.ks {T : List (Addr × Str)} {S : Addr} {H H' : Hp} (t : Tabs T H) (hS : HasSrc S H) (e : Ks S H H') : Tabs T H' := fun p hp => by
  obtain ⟨a, b, c, hS⟩ := hS
  obtain ⟨ps, h1, h2, h3⟩ := t p hp
  refine ⟨ps, e _ _ h1 (fun z => ?_), h2, fun pos cv hc => ?_⟩
  · rw [z, hS] at h1
    cases h1
  · obtain ⟨c1, e1, e2⟩ := h3 pos cv hc
    refine ⟨c1, e1, e _ _ e2 (fun z => ?_)⟩
    rw [z, hS] at e2
    unfold CodeO at e2
    cases e2
/-- all but S and the tables is as it was -/
def Kp (S : Addr) (H H' : Hp) : Prop := ∀ b o, H b = some o → b ≠ S → (∀ ps, o ≠ .tbl ps) → H' b = some o
theorem Kp.refl (S : Addr) (H : Hp) : Kp S H H := fun _ _ h _ _ => h
theorem Kp.trans {S : Addr} {H H1 H2 : Hp} (a : Kp S H H1) (b : Kp S H1 H2) : Kp S H H2 := fun c o h n t => b c o (a c o h n t) n t
theorem Kp.ks {S : Addr} {H H' : Hp} (e : Ks S H H') : Kp S H H' := fun b o h n _ => e b o h n
theorem Kp.ext {S : Addr} {H H' : Hp} (e : ExtN H H') : Kp S H H' := fun b o h _ t => e b o h t
theorem Kp.mut {S p : Addr} {H H' : Hp} {o : HO} (e : Kp S H H') (h : H p = none) : Kp S H (L2.upd H' p o) := fun b u hb n t => by
  rw [upd_ne (ne_of_none hb h)]
  exact e b u hb n t
theorem ExtN.src {S : Addr} {H H' : Hp} (e : ExtN H H') (h : HasSrc S H) : HasSrc S H' := by
  obtain ⟨a, b, c, hS⟩ := h
  exact ⟨a, b, c, e _ _ hS (fun ps z => by cases z)⟩
theorem Same.src {S : Addr} {H H' : Hp} (e : Same H H') (h : HasSrc S H) : HasSrc S H' := by
  obtain ⟨a, b, c, hS⟩ := h
  exact ⟨a, b, c, e _ _ hS⟩
theorem src_ne {S p : Addr} {H : Hp} {o : HO} (h : HasSrc S H) (hp : H p = none) : p ≠ S := fun z => by
  obtain ⟨a, b, c, hS⟩ := h
  rw [z, hS] at hp
  cases hp
theorem ne_src {S p : Addr} {H : Hp} (h : HasSrc S H) (hp : H p = none) : S ≠ p := fun z => by
  obtain ⟨a, b, c, hS⟩ := h
  rw [z] at hS
  rw [hS] at hp
  cases hp
theorem src_new {S p : Addr} {H : Hp} {o : HO} (h : HasSrc S H) (hp : H p = none) : HasSrc S (L2.upd H p o) := Same.src (Same.new hp) h
theorem src_mut {S p : Addr} {H : Hp} {o : HO} (h : HasSrc S H) (hp : S ≠ p) : HasSrc S (L2.upd H p o) := by
  obtain ⟨a, b, c, hS⟩ := h
  exact ⟨a, b, c, by rw [upd_ne hp]; exact hS⟩
mutual
theorem dp_mono {K : PySem.W.Frag} {H H' : Hp} (e : ∀ a o, H a = some o → (∀ ps, o ≠ .tbl ps) → H' a = some o) : ∀ (d : PyData) (v : V), Dp K H v d → Dp K H' v d
  | .none, _, .non => .non
  | .bool _, _, .bl b => .bl b
  | .int _, _, .int i => .int i
  | .str _, _, .str x => .str x
  | .list ds, _, .lst hs ha => .lst (by
      rcases hs with (h | ⟨o, h⟩) | h
      · exact .inl (.inl (e _ _ h (fun ps z => by cases z)))
      · exact .inl (.inr ⟨o, e _ _ h (fun ps z => by cases z)⟩)
      · exact .inr h) (dpAll_mono e ds _ ha)
  | .tuple ds, _, .tup hs ha => .tup (by
      rcases hs with (h | ⟨o, h⟩) | h
      · exact .inl (.inl (e _ _ h (fun ps z => by cases z)))
      · exact .inl (.inr ⟨o, e _ _ h (fun ps z => by cases z)⟩)
      · exact .inr h) (dpAll_mono e ds _ ha)
theorem dpAll_mono {K : PySem.W.Frag} {H H' : Hp} (e : ∀ a o, H a = some o → (∀ ps, o ≠ .tbl ps) → H' a = some o) : ∀ (ds : List PyData) (vs : List V), DpAll K H vs ds → DpAll K H' vs ds
  | [], _, .nil => .nil
  | d :: ds, _, .cons h1 h2 => .cons (dp_mono e d _ h1) (dpAll_mono e ds _ h2)
end
theorem dp_ext {K : PySem.W.Frag} {H H' : Hp} {v : V} {d : PyData} (e : ExtN H H') (h : Dp K H v d) : Dp K H' v d := dp_mono (fun a o z n => e a o z n) d v h
theorem dp_same {K : PySem.W.Frag} {H H' : Hp} {v : V} {d : PyData} (e : Same H H') (h : Dp K H v d) : Dp K H' v d := dp_mono (fun a o z _ => e a o z) d v h
theorem dpAll_ints {K : PySem.W.Frag} {H : Hp} : ∀ ns : List Int, DpAll K H (ns.map V.int) (ns.map PyData.int)
  | [] => .nil
  | n :: r => .cons (.int n) (dpAll_ints r)
theorem lay_ints : ∀ ns : List Int, PyData.canLayAll0 (ns.map PyData.int) = true
  | [] => rfl
  | n :: r => by
    show (true && PyData.canLayAll0 (r.map PyData.int)) = true
    rw [lay_ints r]
    rfl
theorem depth_ints : ∀ ns : List Int, PyData.depthAll (ns.map PyData.int) = 0
  | [] => rfl
  | n :: r => by
    show max 0 (PyData.depthAll (r.map PyData.int)) = 0
    rw [depth_ints r]
    rfl
theorem eqv_same {d : PyData} (h : SeqAt.shaped d = true) : PyData.eqv d d = true := SeqAt.eqv_refl d (SeqAt.canLay_of_shaped h)
end Q

namespace Q
open PySem PySem.Spec PyProof.Rows L2 LamX
theorem Tabs.lst {T : List (Addr × Str)} {D : Addr} {H : Hp} {xs : List V} {o : HO} (t : Tabs T H) (hD : H D = some (.lst xs)) : Tabs T (upd H D o) := fun p hp => by
  obtain ⟨ps, h1, h2, h3⟩ := t p hp
  refine ⟨ps, ?_, h2, fun pos cv hc => ?_⟩
  · rw [upd_ne (fun z => ?_)]
    · exact h1
    · rw [z, hD] at h1
      cases h1
  · obtain ⟨c1, e1, e2⟩ := h3 pos cv hc
    refine ⟨c1, e1, ?_⟩
    rw [upd_ne (fun z => ?_)]
    · exact e2
    · rw [z, hD] at e2
      unfold CodeO at e2
      cases e2
/-- nothing but a table, if anything -/
def NoO (H : Hp) (p : Addr) : Prop := ∀ o, H p = some o → ∃ ps, o = .tbl ps
theorem Kp.mutN {S p : Addr} {H H' : Hp} {o : HO} (e : Kp S H H') (h : NoO H p) : Kp S H (L2.upd H' p o) := fun b u hb n t => by
  rw [upd_ne (fun z => ?_)]
  · exact e b u hb n t
  · rw [z] at hb
    obtain ⟨ps, q⟩ := h u hb
    exact t ps q
/-- how a law's def stands within its run: what was there, the source, the tables -/
structure Now (T : List (Addr × Str)) (S : Addr) (H0 H : Hp) : Prop where
  kp : Kp S H0 H
  hs : HasSrc S H
  tb : Tabs T H
section
variable {T : List (Addr × Str)} {S p D : Addr} {H0 H H' : Hp} {o : HO} {xs : List V}
theorem Now.new (n : Now T S H0 H) (h : H p = none) : Now T S H0 (upd H p o) :=
  ⟨n.kp.trans (Kp.ks (Ks.of (Same.new h))), src_new n.hs h, n.tb.ext (Same.new h)⟩
theorem Now.ks (n : Now T S H0 H) (k : Ks S H H') (h : HasSrc S H') : Now T S H0 H' := ⟨n.kp.trans (Kp.ks k), h, Tabs.ks n.tb n.hs k⟩
theorem Now.same (n : Now T S H0 H) (k : Same H H') : Now T S H0 H' := ⟨n.kp.trans (Kp.ks (Ks.of k)), Same.src k n.hs, n.tb.ext k⟩
theorem Now.mut (n : Now T S H0 H) (hD : H D = some (.lst xs)) (h0 : NoO H0 D) (ne : D ≠ S) : Now T S H0 (upd H D o) := ⟨n.kp.mutN h0, src_mut n.hs (Ne.symm ne), Tabs.lst n.tb hD⟩
theorem Now.ext (n : Now T S H0 H) (e : ExtN H H') (t : Tabs T H') : Now T S H0 H' := ⟨n.kp.trans (Kp.ext e), ExtN.src e n.hs, t⟩
theorem Now.noS (n : Now T S H0 H) (h : H p = none) : p ≠ S := src_ne (o := .lst []) n.hs h
theorem Now.fresh (n : Now T S H0 H) (h : H p = none) : NoO H0 p := fun o q => by
  by_cases tt : ∃ ps, o = .tbl ps
  · exact tt
  · rw [n.kp p o q (n.noS h) (fun ps e => tt ⟨ps, e⟩)] at h
    cases h
end
theorem lc_yes {te no : Hp → Prop} {σ : L2.St} {H : Hp} (q : te H) : tYes σ H (fun b H3 => if b = true then te H3 else no H3) := by
  show (if true = true then te H else no H)
  exact iteT q
def hoOf (b : Bool) (xs : List V) : HO := match b with
  | true => .lst xs
  | false => .tup xs
theorem hoOf_tbl (b : Bool) (xs : List V) : ∀ ps, hoOf b xs ≠ .tbl ps := fun ps z => by cases b <;> cases z
theorem sq_hoOf {b : Bool} {K : PySem.W.Frag} {H : Hp} {a : Addr} {xs : List V} (h : H a = some (hoOf b xs)) : Sq b K H a xs := by
  cases b with
  | true => exact SqL.of h
  | false => exact SqT.of h
/-- what a memory of these sizes is told as -/
def dueOf (ns : List Int) : PyData := match badSizes ns with
  | none => .tuple [.str "ok", .tuple (ns.map PyData.int)]
  | some (w, n) => .tuple [.str "count", .str w, .int n]
theorem ok_shaped (ns : List Int) : SeqAt.shaped (.tuple [.str "ok", .tuple (ns.map PyData.int)]) = true := by
  have h1 : PyData.canLay0 (.tuple [.str "ok", .tuple (ns.map PyData.int)]) = true := by
    simp only [PyData.canLay0, PyData.canLayAll0, lay_ints, Bool.and_true]
    decide +kernel
  have h2 : PyData.depth (.tuple [.str "ok", .tuple (ns.map PyData.int)]) ≤ 64 := by
    simp [PyData.depth, PyData.depthAll, depth_ints]
  unfold SeqAt.shaped
  rw [h1, decide_eq_true h2]
  rfl
theorem count_shaped {w : Str} (n : Int) (hw : PyData.canLay0 (.str w) = true) : SeqAt.shaped (.tuple [.str "count", .str w, .int n]) = true := by
  have h1 : PyData.canLay0 (.tuple [.str "count", .str w, .int n]) = true := by
    have e : PyData.canLay0 (.tuple [.str "count", .str w, .int n]) = (PyData.canLay0 (.str "count") && (PyData.canLay0 (.str w) && true)) := rfl
    rw [e, hw]
    decide +kernel
  have h2 : PyData.depth (.tuple [.str "count", .str w, .int n]) ≤ 64 := by
    simp [PyData.depth, PyData.depthAll]
  unfold SeqAt.shaped
  rw [h1, decide_eq_true h2]
  rfl
theorem bad_words {ns : List Int} {w : Str} {n : Int} (h : badSizes ns = some (w, n)) : w = "lines" ∨ w = "words" := by
  unfold badSizes at h
  split at h
  · cases e : ns.find? fun n => !decide (1 ≤ n ∧ n ≤ 4) with
    | none =>
      rw [e] at h
      cases h
    | some m =>
      rw [e] at h
      cases h
      exact .inr rfl
  · cases h
    exact .inl rfl
theorem due_shaped (ns : List Int) : SeqAt.shaped (dueOf ns) = true := by
  unfold dueOf
  cases e : badSizes ns with
  | none => exact ok_shaped ns
  | some p =>
    obtain ⟨w, n⟩ := p
    refine count_shaped n ?_
    rcases bad_words e with h | h <;> (rw [h]; decide +kernel)
end Q

namespace Q
open PySem PySem.Spec PyProof.Rows L2 LamX
/-! ### a class without __init__, called; isinstance of own classes -/
structure Bare (K : PySem.W.Frag) (mg : Str → Option Value) (x : Str) (C : Addr) : Prop where
  gC : mg x = some (.ref C)
  makes : PySem.W.makesIn K C = true
  init : PySem.W.findIn K (.ref C) "__init__" = some (some (.builtin "object.__init__"))
  kp : PySem.W.keepIn K (.ref C) = true
  top : PySem.W.mroIn K C (.type "object") = some true
section
variable {X : Cx} {C : Addr} {x : Str} {p pos : Pos}
theorem pe_bare (M : Bare X.K X.mg x C) (hg : Gl X x) (hdb : (x == ("__debug__" : Str)) = false := by decide) :
    PE X (.Call (.Name x p) [] [] pos) (fun σ H Q => ∀ y dx, H y = none → H dx = none → dx ≠ y → Q (.ref y) (upd (upd H dx (.own y)) y (.ins C dx []))) := by
  refine ⟨fun pz s σ H Q I h => ?_⟩
  refine wpAny_Call_Name_kw (ld_glob I hg M.gC ?_ hdb)
  refine PySem.W.callWith_K0 I.kIn M.kp ?_
  have hq := h (s.heap.objs.size + 1) s.heap.objs.size (I.hok.fresh (Nat.le_succ _)) (I.hok.fresh (Nat.le_refl _)) (Nat.ne_of_lt (Nat.lt_succ_self _))
  have I2 := Inv.made (C := C) I
  have X2 := I2.kIn
  refine wpAny_call (make_map0 I.kIn M.makes M.init (fun self => PySem.W.Looks.of_pure (PySem.W.oi_bind _)) ?_)
  have hk : ({ s with heap := (s.heap.push PySem.W.emptyDict).push (PySem.W.instObj C s.heap.objs.size) } : Shared).heap.get? (s.heap.objs.size + 1) = some (PySem.W.instObj C s.heap.objs.size) := by
    show ((s.heap.push PySem.W.emptyDict).push (PySem.W.instObj C s.heap.objs.size)).get? (s.heap.objs.size + 1) = _
    heap_get
  have t1 : PySem.W.Looks (model X.prog X.w) ({ s with heap := (s.heap.push PySem.W.emptyDict).push (PySem.W.instObj C s.heap.objs.size) } : Shared).heap (typeOf (.ref (s.heap.objs.size + 1))) (.ref C) := NwA.type_at hk rfl
  have t2 : PySem.W.Looks (model X.prog X.w) ({ s with heap := (s.heap.push PySem.W.emptyDict).push (PySem.W.instObj C s.heap.objs.size) } : Shared).heap (isInstance (.ref (s.heap.objs.size + 1)) (.type "object")) true :=
    t1.andThen (PySem.W.looks_mroIn X2 M.top)
  refine codeAny_call_builtin PySem.W.oi_plain PySem.W.entry_oi (@PySem.W.check_slot (model X.prog X.w) _ _ _ "object.__init__" "object" "__init__" (.ref (s.heap.objs.size + 1)) [] [] _ PySem.W.oi_kind PySem.W.oi_split t2 (NwA.oi_args_any _ [] []) ?_)
  rw [PySem.W.oi_run]
  exact wpAny_pure ⟨rfl, ⟨V.ref (s.heap.objs.size + 1), _, I2, rfl, hq⟩⟩
end
end Q

namespace Q
open PySem PySem.Spec PyProof.Rows L2 LamX
theorem ne_plain : plainId "object.__ne__" = true := by decide +kernel
theorem ne_bind (self : Value) : bindSpecial (.builtin "object.__ne__") self = pure (.builtin "object.__ne__", [self]) :=
  (Slot.of (T := "object") (name := "__ne__") (owner := "object") (n := "__ne__") (by rw [typeLookup_type, builtinLookup_eq_fast]; kernel_rfl) (by decide +kernel) (by decide +kernel) (by decide +kernel)
    (.inl (by decide +kernel)) (by rw [isSubtype_type]; kernel_rfl)).bind self
section
variable {prog : Program} {w : World} {A : Around} {E : Value → Shared → Prop} {s : Shared} {K : PySem.W.Frag} {x C L f : Addr} {h₀ : Heap} {m : Str → Option Value} {ox : Obj} {od : Option Obj} {name : Str} {b tb : Value}
theorem ifBoundB {M : Model} {args : List Value} {id : String} {Q : Option Value → Shared → Prop} (X : K.In s.heap) (I : PySem.W.InstAt s.heap x ox C od) (hs : PySem.W.findIn K (.ref C) name = some (some (.builtin id)))
    (hb : ∀ self, bindSpecial (.builtin id) self = pure (.builtin id, [self]))
    (h : wpAny M A (call (.builtin id) (.ref x :: args)) (fun v => Q (some v)) E s) : wpAny M A (callSpecialIfBound? (.ref x) name args) Q E s := by
  simp only [callSpecialIfBound?, bindSpecialIfBound?]
  refine wpAny_holding (wpAny_bind (wpAny_bind (wpAny_bind (I.type.here ((PySem.W.looks_findIn X hs).here ?_)))))
  refine wpAny_bind (wpAny_askSetting (wpAny_ite ?_))
  have last : wpAny M A (call (.builtin id) ([.ref x] ++ args) >>= fun v => pure (some v)) Q E s := wpAny_bind (wpAny_mono h (fun v sx hx => wpAny_pure hx) fun _ _ hx => hx)
  split
  · exact wpAny_bind ((PySem.W.Looks.of_pure (hb _)).here (wpAny_pure (by exact last)))
  · exact wpAny_tryCatch (wpAny_bind ((PySem.W.Looks.of_pure (hb _)).here (wpAny_pure (by exact last))))
theorem ne_own {Q : Value → Shared → Prop} (hu : A.units + 1 < cLine) (X : K.In s.heap) (I : PySem.W.InstAt s.heap x ox C od) (hb : PySem.W.Looks (model prog w) s.heap (typeOf b) (.ref C))
    (hn : PySem.W.findIn K (.ref C) "__ne__" = some (some (.builtin "object.__ne__"))) (hs : PySem.W.findIn K (.ref C) "__eq__" = some (some (.ref f))) (hf : PySem.W.isFn K (.ref f) = true) (ht : PySem.W.mroIn K C (.type "object") = some true)
    (h : wpAny (model prog w) A.in1 (call (.ref f) [.ref x, b]) (fun v s' => ∃ r, v = .bool r ∧ Q (.bool (!r)) s') E s) : wpAny (model prog w) A (richCompare .NotEq (.ref x) b) Q E s := by
  have one : wpAny (model prog w) A (tryCompare (.ref x) "__ne__" b) (fun r s' => ∃ v, r = some v ∧ Q v s') E s := by
    unfold tryCompare
    refine wpAny_bind (ifBoundB X I hn ne_bind (wpAny_call (codeAny_call_builtin ne_plain F.cmpEntry_ne ?_)))
    have tt : PySem.W.Looks (model prog w) s.heap (isInstance (.ref x) (.type "object")) true := I.type.andThen (PySem.W.looks_mroIn X ht)
    refine @PySem.W.check_slot (model prog w) _ _ _ "object.__ne__" "object" "__ne__" (.ref x) [b] [] _ F.cmpKind_ne F.cmpSplit_ne tt (F.cmpArgs_ne _ _) ?_
    unfold Builtin.«object.__ne__»
    repeat (first
      | with_reducible refine wpAny_cRoomFor (A := A.in1) (show A.in1.units < cLine from hu) ?_
      | (refine wpAny_bind (m := callSpecialIfBound? (.ref x) (Str.ofString "__eq__") [b]) (PySem.W.ifBound_K X I hs hf (wpAny_mono h (fun r sx hr => ?_) fun _ _ e => e)))
      | wp_step)
    obtain ⟨r, rfl, hq⟩ := hr
    repeat (first | exact ⟨_, rfl, hq⟩ | exact wpAny_pure ⟨_, rfl, hq⟩ | (refine wpAny_bind (m := truthy (.bool _)) (wpAny_truthy_bool ?_)) | wp_step)
  unfold richCompare
  simp only [oneThing_ref]
  refine wpAny_holding (wpAny_bind (wpAny_cRoomFor (Nat.lt_of_succ_lt hu) ?_))
  refine wpAny_bind (I.type.here (wpAny_bind (hb.here ?_)))
  rw [cmpInfo_NotEq]
  rw [show (Value.ref C != Value.ref C) = false from by simp]
  simp only [Bool.false_eq_true, if_false]
  refine wpAny_bind (wpAny_pure ?_)
  simp only [Bool.false_eq_true, if_false]
  refine wpAny_bind (wpAny_mono one (fun r sx z => ?_) fun _ _ e => e)
  obtain ⟨v, rfl, hq⟩ := z
  exact wpAny_pure hq
end
end Q

namespace Q
open PySem PySem.Spec PyProof.Rows L2 LamX
/-- a method by which two instances of the class at C are compared or added -/
structure Dun (P : Program) (w : World) (K : PySem.W.Frag) (mg : Str → Option Value) (base : Heap) (CX : CXT) (C : Addr) (m : Str) (k : Nat) (ps : List Str) (sp : Sp) : Prop where
  ex : ∃ (f : Addr) (fd : FuncData), FnOk P w K mg base CX k f fd ps sp ∧ PySem.W.findIn K (.ref C) m = some (some (.ref f)) ∧ PySem.W.isFn K (.ref f) = true ∧ Binds K fd ps []
section
variable {X : Cx} {CX : CXT} {C : Addr} {k : Nat} {ps : List Str} {sp : Sp} {E : XK}
/-- the callee runs, at any place below the frame -/
theorem run_at {A : Around} {f : Addr} {fd : FuncData} {pz : List (Addr × Obj)} {σ : L2.St} {H : Hp} {s : Shared} {R : VK} {us : List Value} {vs : List V} (hA : A.frames = X.A.frames) (F : FnOk X.prog X.w X.K X.mg X.base CX k f fd ps sp) (hr : Room k A) (hb : Binds X.K fd ps [])
    (hx : Passes CX X E) (I : Inv X pz σ H s) (r : Vals vs us) (h : sp vs H R E) : wpAny (model X.prog X.w) A (call (.ref f) us) (EP X pz σ R) X.xe s := by
  have e0 : Env0 X.prog X.w X.K X.mg X.base A X.stack s H := by
    have e := I.env0
    exact ⟨by rw [hA]; exact e.frames, e.mod, e.bs, e.bsz, e.funs, e.frf, e.hok, e.bare⟩
  have hl : us.length = ps.length := by rw [← r.length]; exact F.len _ _ _ _ h
  have b := hb s us I.kIn (by rw [List.append_nil]; exact hl)
  rw [List.append_nil] at b
  refine wpAny_call (codeAny_mono (F.run A X.stack s H ⟨us, []⟩ us vs R E hr e0 b r h) fun r sx hq => ?_)
  cases r with
  | error e => exact hx pz σ H s e sx I hq
  | ok fl =>
    cases fl with
    | ret u => exact I.after hq
    | next => exact False.elim hq
    | brk => exact False.elim hq
    | cont => exact False.elim hq
def rOwn (C : Addr) (sp : Sp) (E : XK) (g : Bool → Bool) : R2 := fun x y H Q => ∃ a b dx dy fs gs, x = .ref a ∧ y = .ref b ∧ H a = some (.ins C dx fs) ∧ H b = some (.ins C dy gs) ∧ sp [x, y] H (fun v H' => ∃ r, v = .bl r ∧ Q (.bl (g r)) H') E
theorem op_eqO (D : Dun X.prog X.w X.K X.mg X.base CX C "__eq__" k ps sp) (hr : Room k X.A) (hx : Passes CX X E) : OpR X (compareOp .Eq) (rOwn C sp E id) := by
  intro pz s σ H x y v u R I rx ry hq
  obtain ⟨f, fd, F, hs, hf, hb⟩ := D.ex
  obtain ⟨a, b, dx, dy, fs, gs, rfl, rfl, ha, hb', h⟩ := hq
  cases rx
  cases ry
  obtain ⟨mA, J, _⟩ := ins_get I.hok ha
  obtain ⟨mB, J2, _⟩ := ins_get I.hok hb'
  obtain ⟨od, J, _⟩ := J.look
  obtain ⟨od2, J2, _⟩ := J2.look
  obtain ⟨m, hF⟩ := I.fr
  refine PySem.W.cmp_ofEq (PySem.W.cmp_K (op := .Eq) (tb := .ref C) hr.units0 hF I.ok.mod.kin J J2.type (by simp [PySem.W.notFirst]) hs hf ?_)
  refine wpAny_mono (run_at rfl F hr hb hx I (show Vals [V.ref a, V.ref b] [Value.ref a, Value.ref b] from .cons rfl (.cons rfl .nil)) h) (fun v sx hq => ?_) fun _ _ e => e
  obtain ⟨z, H', I', rz, r, ez, q⟩ := hq
  subst ez
  cases rz
  exact ⟨.bl r, H', I', rfl, q⟩
theorem op_neO (D : Dun X.prog X.w X.K X.mg X.base CX C "__eq__" k ps sp) (hn : PySem.W.findIn X.K (.ref C) "__ne__" = some (some (.builtin "object.__ne__"))) (ht : PySem.W.mroIn X.K C (.type "object") = some true) (hr : Room (k + 1) X.A) (hx : Passes CX X E) :
    OpR X (compareOp .NotEq) (rOwn C sp E not) := by
  intro pz s σ H x y v u R I rx ry hq
  obtain ⟨f, fd, F, hs, hf, hb⟩ := D.ex
  obtain ⟨a, b, dx, dy, fs, gs, rfl, rfl, ha, hb', h⟩ := hq
  cases rx
  cases ry
  obtain ⟨mA, J, _⟩ := ins_get I.hok ha
  obtain ⟨mB, J2, _⟩ := ins_get I.hok hb'
  obtain ⟨od, J, _⟩ := J.look
  obtain ⟨od2, J2, _⟩ := J2.look
  refine PySem.W.cmp_ofNotEq (ne_own (by have := hr.un; omega) I.kIn J J2.type hn hs hf ht ?_)
  refine wpAny_mono (run_at rfl F hr.in1 hb hx I (show Vals [V.ref a, V.ref b] [Value.ref a, Value.ref b] from .cons rfl (.cons rfl .nil)) h) (fun v sx hq => ?_) fun _ _ e => e
  obtain ⟨z, H', I', rz, r, ez, q⟩ := hq
  subst ez
  obtain rfl : v = Value.bool r := rz
  exact ⟨r, rfl, .bl (!r), H', I', rfl, q⟩
/-- one + other of one class -/
def rPlus (C : Addr) (sp : Sp) (E : XK) : R2 := fun x y H Q => ∃ a b dx dy fs gs, x = .ref a ∧ y = .ref b ∧ H a = some (.ins C dx fs) ∧ H b = some (.ins C dy gs) ∧ sp [x, y] H (fun v H' => (∃ p, v = .ref p) ∧ Q v H') E
theorem op_addO (D : Dun X.prog X.w X.K X.mg X.base CX C "__add__" k ps sp) (hc : PySem.W.selfFirst X.K C = true) (hr : Room k X.A) (hx : Passes CX X E) : OpR X (binaryOp .Add) (rPlus C sp E) := by
  intro pz s σ H x y v u R I rx ry hq
  obtain ⟨f, fd, F, hs, hf, hb⟩ := D.ex
  obtain ⟨a, b, dx, dy, fs, gs, rfl, rfl, ha, hb', h⟩ := hq
  cases rx
  cases ry
  obtain ⟨mA, J, _⟩ := ins_get I.hok ha
  obtain ⟨mB, J2, _⟩ := ins_get I.hok hb'
  obtain ⟨od, J, _⟩ := J.look
  obtain ⟨od2, J2, _⟩ := J2.look
  obtain ⟨m, hF⟩ := I.fr
  refine PySem.W.binop_K (op := .Add) hF I.ok.mod.kin J J2.type hc hs hf ?_
  refine wpAny_mono (run_at rfl F hr hb hx I (show Vals [V.ref a, V.ref b] [Value.ref a, Value.ref b] from .cons rfl (.cons rfl .nil)) h) (fun v sx hq => ?_) fun _ _ e => e
  obtain ⟨z, H', I', rz, ⟨p, ez⟩, q⟩ := hq
  subst ez
  cases rz
  exact ⟨.ref p, H', I', rfl, q⟩
end
/-! ### isinstance of own classes -/
structure OwnC (K : PySem.W.Frag) (C : Addr) : Prop where
  cl : Cls K C
  ha : PySem.W.findIn K (.ref C) "__class__" = some (some (.builtin "object.__class__"))
  hn : PySem.W.specialIn K (.builtin "object.__class__") "__get__" = some (some (.builtin "getset_descriptor.__get__"))
  htk : PySem.W.takesIn K (.builtin "object.__class__") = some true
  hm : PySem.W.mroIn K C (.type "object") = some true
theorem kit_self {K : PySem.W.Frag} {C : Addr} : PySem.W.kitOne K (.ref C) (.ref C) = some true := by
  unfold PySem.W.kitOne
  rw [if_pos (by simp)]
theorem kit_no {K : PySem.W.Frag} {C D : Addr} (ne : C ≠ D) (h1 : PySem.W.isClsIn K D = true) (h2 : PySem.W.typeIn K (.ref D) = some (.type "type")) (h3 : PySem.W.subIn K (.ref C) (.ref D) = some false) : PySem.W.kitOne K (.ref C) (.ref D) = some false := by
  unfold PySem.W.kitOne
  rw [if_neg (by simpa using ne)]
  unfold PySem.W.kitCls
  have e2 : ((PySem.W.clsIn K D).isSome && PySem.W.typeIn K (.ref D) == some (.type "type")) = true := by
    have h5 : (PySem.W.clsIn K D).isSome = true := h1
    rw [h5, h2] <;> rfl
  show (if ((PySem.W.clsIn K D).isSome && PySem.W.typeIn K (.ref D) == some (.type "type")) = true then PySem.W.subIn K (.ref C) (.ref D) else none) = some false
  rw [if_pos e2]
  exact h3
/-- isinstance(x, D) of an instance of the class at C -/
theorem v_isi {K : PySem.W.Frag} {σ : L2.St} {H : Hp} {te tc : TE} {a C D dx : Addr} {fs : List (Str × V)} {b : Bool} (hx : Val te σ H (.ref a)) (hc : Val tc σ H (.ref D)) (o : OwnC K C) (ha : H a = some (.ins C dx fs)) (hk : PySem.W.kitOne K (.ref C) (.ref D) = some b) :
    Val (tCB (rIsi K) (tCons te (tCons tc tNil))) σ H (.bl b) := by
  intro Q q
  refine hx _ ?_
  refine hc _ ?_
  exact ⟨.ref a, .ref D, _, _, b, rfl, .own D, .base (.ins ha o.cl o.ha o.hn o.htk o.hm), hk, q⟩
end Q

namespace Q
open PySem PySem.Spec PyProof.Rows L2 LamX
section
variable {X : Cx}
/-- xs[i], ahead of xs[i] op= e -/
def rGetL (K : PySem.W.Frag) : V → V → Hp → VK → Prop := fun o i H Q => ∃ (p : Addr) (xs : List V) (j : Nat) (v : V), o = .ref p ∧ i = .int (j : Nat) ∧ SqL K H p xs ∧ xs[j]? = some v ∧ Q v H
theorem get_list : PGet X (rGetL X.K) := by
  intro pz s σ H o i ov iv R I ro ri h
  obtain ⟨p, xs, j, v, rfl, rfl, hq, he, q⟩ := h
  cases ro
  obtain ⟨t, rfl⟩ := ri
  obtain ⟨its, r, pl, hz⟩ := I.list hq
  obtain ⟨u, eu, ru⟩ := r.get he
  have hlt : j < its.length := (List.getElem?_eq_some_iff.mp eu).1
  have hl := r.length
  have hn := line63
  refine wpAny_getItem_list (k := (j : Int)) pl.isList (Int.natCast_nonneg j) (by omega) (by simpa using eu) ?_
  exact ⟨v, H, I, ru, q⟩
end
/-! ### commands, memories, programs: the data -/
inductive Cmd where
  | store (l w n : Int)
  | flush (l : Int)
  | fence
  deriving DecidableEq
/-- where the module's classes stand -/
structure Ad where
  st : Addr
  fl : Addr
  fe : Addr
  me : Addr
  pr : Addr
  bc : Addr
  nl : Addr
  nw : Addr
  nt : Addr
def Ad.cls (d : Ad) : Cmd → Addr
  | .store _ _ _ => d.st
  | .flush _ => d.fl
  | .fence => d.fe
def cmdFs : Cmd → List (Str × V)
  | .store l w n => [("line", .int l), ("word", .int w), ("number", .int n)]
  | .flush l => [("line", .int l)]
  | .fence => []
def All2 {α : Type} (R : V → α → Prop) (vs : List V) (cs : List α) : Prop := vs.length = cs.length ∧ ∀ (i : Nat) (v : V) (c : α), vs[i]? = some v → cs[i]? = some c → R v c
theorem All2.mono {α : Type} {R R' : V → α → Prop} {vs : List V} {cs : List α} (h : ∀ v c, R v c → R' v c) (a : All2 R vs cs) : All2 R' vs cs := ⟨a.1, fun i v c h1 h2 => h v c (a.2 i v c h1 h2)⟩
theorem All2.nil {α : Type} {R : V → α → Prop} : All2 R [] [] := ⟨rfl, fun i v c h => by simp at h⟩
theorem All2.snoc {α : Type} {R : V → α → Prop} {vs : List V} {cs : List α} {v : V} {c : α} (a : All2 R vs cs) (h : R v c) : All2 R (vs ++ [v]) (cs ++ [c]) := by
  refine ⟨by rw [List.length_append, List.length_append, a.1]; rfl, fun i x y h1 h2 => ?_⟩
  by_cases hi : i < vs.length
  · rw [List.getElem?_append_left hi] at h1
    rw [List.getElem?_append_left (by rw [← a.1]; exact hi)] at h2
    exact a.2 i x y h1 h2
  · rw [List.getElem?_append_right (by omega)] at h1
    rw [List.getElem?_append_right (by rw [← a.1]; omega)] at h2
    have e : i - vs.length = 0 := by
      have q := (List.getElem?_eq_some_iff.mp h1).1
      simp at q
      omega
    rw [e] at h1
    rw [← a.1, e] at h2
    cases h1
    cases h2
    exact h
theorem All2.get {α : Type} {R : V → α → Prop} {vs : List V} {cs : List α} {i : Nat} {v : V} (a : All2 R vs cs) (h : vs[i]? = some v) : ∃ c, cs[i]? = some c ∧ R v c := by
  have hi : i < cs.length := by rw [← a.1]; exact (List.getElem?_eq_some_iff.mp h).1
  exact ⟨cs[i], by simp [hi], a.2 i v _ h (by simp [hi])⟩
theorem All2.get' {α : Type} {R : V → α → Prop} {vs : List V} {cs : List α} {i : Nat} {c : α} (a : All2 R vs cs) (h : cs[i]? = some c) : ∃ v, vs[i]? = some v ∧ R v c := by
  have hi : i < vs.length := by rw [a.1]; exact (List.getElem?_eq_some_iff.mp h).1
  exact ⟨vs[i], by simp [hi], a.2 i _ c (by simp [hi]) h⟩
theorem All2.take {α : Type} {R : V → α → Prop} {vs : List V} {cs : List α} (n : Nat) (a : All2 R vs cs) : All2 R (vs.take n) (cs.take n) :=
  ⟨by rw [List.length_take, List.length_take, a.1], fun i v c h1 h2 => by
    rw [List.getElem?_take] at h1 h2
    split at h1
    · rename_i q
      rw [if_pos q] at h2
      exact a.2 i v c h1 h2
    · cases h1⟩
theorem All2.drop {α : Type} {R : V → α → Prop} {vs : List V} {cs : List α} (n : Nat) (a : All2 R vs cs) : All2 R (vs.drop n) (cs.drop n) :=
  ⟨by rw [List.length_drop, List.length_drop, a.1], fun i v c h1 h2 => by
    rw [List.getElem?_drop] at h1 h2
    exact a.2 _ v c h1 h2⟩
theorem All2.app {α : Type} {R : V → α → Prop} {vs ws : List V} {cs ds : List α} (a : All2 R vs cs) (b : All2 R ws ds) : All2 R (vs ++ ws) (cs ++ ds) := by
  refine ⟨by rw [List.length_append, List.length_append, a.1, b.1], fun i x y h1 h2 => ?_⟩
  by_cases hi : i < vs.length
  · rw [List.getElem?_append_left hi] at h1
    rw [List.getElem?_append_left (by rw [← a.1]; exact hi)] at h2
    exact a.2 i x y h1 h2
  · rw [List.getElem?_append_right (by omega)] at h1
    rw [List.getElem?_append_right (by rw [← a.1]; omega)] at h2
    rw [← a.1] at h2
    exact b.2 _ x y h1 h2
/-- what is neither a list nor a table stands as it was -/
def Ke (H H' : Hp) : Prop := ∀ b o, H b = some o → (∀ xs, o ≠ .lst xs) → (∀ ps, o ≠ .tbl ps) → H' b = some o
theorem Ke.refl (H : Hp) : Ke H H := fun _ _ h _ _ => h
theorem Ke.trans {H H1 H2 : Hp} (a : Ke H H1) (b : Ke H1 H2) : Ke H H2 := fun c o h n t => b c o (a c o h n t) n t
theorem Ke.same {H H' : Hp} (e : Same H H') : Ke H H' := fun b o h _ _ => e b o h
theorem Ke.ext {H H' : Hp} (e : ExtN H H') : Ke H H' := fun b o h _ t => e b o h t
theorem Ke.ks {S : Addr} {H H' : Hp} (hs : HasSrc S H) (e : Ks S H H') : Ke H H' := fun b o h n _ => e b o h (fun z => by
  obtain ⟨x, y, c, hS⟩ := hs
  rw [z, hS] at h
  cases h
  exact n _ rfl)
theorem Ke.lst {H : Hp} {p : Addr} {xs : List V} {o : HO} (h : H p = some (.lst xs)) : Ke H (L2.upd H p o) := fun b u hb n _ => by
  rw [upd_ne (fun z => ?_)]
  · exact hb
  · rw [z, h] at hb
    cases hb
    exact n _ rfl
theorem Ke.kp {S : Addr} {H H' : Hp} (hs : HasSrc S H) (e : Kp S H H') : Ke H H' := fun b o h n t => e b o h (fun z => by
  obtain ⟨x, y, c, hS⟩ := hs
  rw [z, hS] at h
  cases h
  exact n _ rfl) t
theorem Now.ke {T : List (Addr × Str)} {S : Addr} {H0 H : Hp} (hs : HasSrc S H0) (n : Now T S H0 H) : Ke H0 H := Ke.kp hs n.kp
def CmdAt (d : Ad) (H : Hp) (v : V) (c : Cmd) : Prop := ∃ a dx, v = .ref a ∧ H a = some (.ins (d.cls c) dx (cmdFs c))
def MemAt (d : Ad) (H : Hp) (m : Addr) (ns : List Int) : Prop := ∃ dx t, H m = some (.ins d.me dx [("sizes", .ref t)]) ∧ H t = some (.tup (ns.map V.int))
def ProgAt (d : Ad) (H : Hp) (p : Addr) (ns : List Int) (cs : List Cmd) : Prop := ∃ dx m t vs, H p = some (.ins d.pr dx [("memory", .ref m), ("commands", .ref t)]) ∧ MemAt d H m ns ∧ H t = some (.tup vs) ∧ All2 (CmdAt d H) vs cs
theorem CmdAt.ke {d : Ad} {H H' : Hp} {v : V} {c : Cmd} (e : Ke H H') (h : CmdAt d H v c) : CmdAt d H' v c := by
  obtain ⟨a, dx, rfl, h⟩ := h
  exact ⟨a, dx, rfl, e _ _ h (fun _ z => by cases z) (fun _ z => by cases z)⟩
theorem MemAt.ke {d : Ad} {H H' : Hp} {m : Addr} {ns : List Int} (e : Ke H H') (h : MemAt d H m ns) : MemAt d H' m ns := by
  obtain ⟨dx, t, h1, h2⟩ := h
  exact ⟨dx, t, e _ _ h1 (fun _ z => by cases z) (fun _ z => by cases z), e _ _ h2 (fun _ z => by cases z) (fun _ z => by cases z)⟩
theorem ProgAt.ke {d : Ad} {H H' : Hp} {p : Addr} {ns : List Int} {cs : List Cmd} (e : Ke H H') (h : ProgAt d H p ns cs) : ProgAt d H' p ns cs := by
  obtain ⟨dx, m, t, vs, h1, h2, h3, h4⟩ := h
  exact ⟨dx, m, t, vs, e _ _ h1 (fun _ z => by cases z) (fun _ z => by cases z), h2.ke e, e _ _ h3 (fun _ z => by cases z) (fun _ z => by cases z), h4.mono fun v c q => q.ke e⟩
/-! ### what may be refused -/
inductive PErr where
  | count (w : Str) (n : Int)
  | line (n : Int)
  | word (n : Int)
  | time (n : Int)
def Ad.err (d : Ad) : PErr → Addr
  | .count _ _ => d.bc
  | .line _ => d.nl
  | .word _ => d.nw
  | .time _ => d.nt
def errFs : PErr → List (Str × V)
  | .count w n => [("count", .int n), ("what", .str w)]
  | .line n => [("line", .int n)]
  | .word n => [("word", .int n)]
  | .time n => [("time", .int n)]
/-- the error e is let out: its own dict is new -/
def Raised (d : Ad) (e : PErr) (E : XK) (H : Hp) : Prop := ∀ x, H x = none → E (.ref (d.err e)) (some x) (upd H x (.xd (errFs e)))
def lineErr (ns : List Int) (l : Int) : Option PErr := if 0 ≤ l ∧ l < ns.length then none else some (.line l)
def wordErr (ns : List Int) (l w : Int) : Option PErr := if 0 ≤ l ∧ l < ns.length then (if 0 ≤ w ∧ w < ns.getD l.toNat 0 then none else some (.word w)) else some (.line l)
def cmdErr (ns : List Int) : Cmd → Option PErr
  | .store l w _ => wordErr ns l w
  | .flush l => lineErr ns l
  | .fence => none
def progErr (ns : List Int) (cs : List Cmd) : Option PErr := if 200 < cs.length then some (.count "commands" cs.length) else cs.findSome? (cmdErr ns)
/-- how a check ends -/
def Checks (d : Ad) (o : Option PErr) (Q : VK) (E : XK) (H : Hp) : Prop := match o with
  | none => Q .non H
  | some e => Raised d e E H
def spStoreI (d : Ad) : Sp := fun vs H Q _ => ∃ x dx v1 v2 v3, vs = [.ref x, v1, v2, v3] ∧ H x = some (.ins d.st dx []) ∧ Q .non (upd H x (.ins d.st dx [("line", v1), ("word", v2), ("number", v3)]))
def spFlushI (d : Ad) : Sp := fun vs H Q _ => ∃ x dx v1, vs = [.ref x, v1] ∧ H x = some (.ins d.fl dx []) ∧ Q .non (upd H x (.ins d.fl dx [("line", v1)]))
def spLine (d : Ad) : Sp := fun vs H Q E => ∃ m ns l, vs = [.ref m, .int l] ∧ MemAt d H m ns ∧ Checks d (lineErr ns l) Q E H
def spWord (d : Ad) : Sp := fun vs H Q E => ∃ m ns l w, vs = [.ref m, .int l, .int w] ∧ MemAt d H m ns ∧ Checks d (wordErr ns l w) Q E H
def spCmd (d : Ad) : Sp := fun vs H Q E => ∃ m ns v c, vs = [.ref m, v] ∧ MemAt d H m ns ∧ CmdAt d H v c ∧ Checks d (cmdErr ns c) Q E H
def spCmds (d : Ad) (K : PySem.W.Frag) : Sp := fun vs H Q E => ∃ b m ns a xs cs, vs = [.ref m, .ref a] ∧ MemAt d H m ns ∧ Sq b K H a xs ∧ All2 (CmdAt d H) xs cs ∧ Checks d (progErr ns cs) Q E H
def spProgI (d : Ad) (K : PySem.W.Frag) : Sp := fun vs H Q E => ∃ b p dx m ns a xs cs, vs = [.ref p, .ref m, .ref a] ∧ H p = some (.ins d.pr dx []) ∧ MemAt d H m ns ∧ H a = some (hoOf b xs) ∧ All2 (CmdAt d H) xs cs ∧
  (∀ e, progErr ns cs = some e → Raised d e E H) ∧ (progErr ns cs = none → ∀ H', Ks p H H' → ProgAt d H' p ns cs → Q .non H')
end Q

namespace Q
open PySem PySem.Spec PyProof.Rows L2 LamX
theorem findSome_at {α β : Type} {f : α → Option β} {cs : List α} {i : Nat} {c : α} {e : β} (hi : cs[i]? = some c) (he : f c = some e) (hb : ∀ (j : Nat) (x : α), j < i → cs[j]? = some x → f x = none) : cs.findSome? f = some e := by
  induction cs generalizing i with
  | nil => simp at hi
  | cons a r ih =>
    cases i with
    | zero =>
      simp at hi
      subst hi
      simp [List.findSome?, he]
    | succ i =>
      have ha : f a = none := hb 0 a (Nat.succ_pos i) rfl
      have hi2 : r[i]? = some c := by simpa using hi
      rw [List.findSome?_cons, ha]
      exact ih hi2 fun j x hj hx => hb (j + 1) x (Nat.succ_lt_succ hj) (by simpa using hx)
end Q

namespace Q
open PySem PySem.Spec PyProof.Rows L2 LamX
/-! ### equality of tuples of numbers -/
theorem eqvAll_ints : ∀ ns ms : List Int, PyData.eqvAll (ns.map PyData.int) (ms.map PyData.int) = decide (ns = ms)
  | [], [] => rfl
  | [], m :: ms => by simp [PyData.eqvAll]
  | n :: ns, [] => by simp [PyData.eqvAll]
  | n :: ns, m :: ms => by
    show (PyData.eqv (.int n) (.int m) && PyData.eqvAll (ns.map PyData.int) (ms.map PyData.int)) = _
    rw [eqvAll_ints ns ms]
    have e : PyData.eqv (.int n) (.int m) = (n == m) := by simp [PyData.eqv]
    rw [e]
    by_cases h : n = m
    · subst h
      simp
    · have h2 : ¬ (n :: ns = m :: ms) := fun z => h (List.cons.inj z).1
      rw [decide_eq_false h2]
      simp [h]
theorem eqv_tup (ns ms : List Int) : PyData.eqv (.tuple (ns.map PyData.int)) (.tuple (ms.map PyData.int)) = decide (ns = ms) := by
  rw [PyData.eqv]
  exact eqvAll_ints ns ms
theorem shaped_tup (ns : List Int) : SeqAt.shaped (.tuple (ns.map PyData.int)) = true := by
  unfold SeqAt.shaped
  have h1 : PyData.canLay0 (.tuple (ns.map PyData.int)) = true := lay_ints ns
  have h2 : PyData.depth (.tuple (ns.map PyData.int)) ≤ 64 := by
    simp [PyData.depth, depth_ints]
  rw [h1, decide_eq_true h2]
  rfl
def spMemEq (d : Ad) : Sp := fun vs H Q _ => ∃ a b ns ms, vs = [.ref a, .ref b] ∧ MemAt d H a ns ∧ MemAt d H b ms ∧ Q (.bl (decide (ns = ms))) H
def spAdd (d : Ad) : Sp := fun vs H Q _ => ∃ p q ns cs es, vs = [.ref p, .ref q] ∧ ProgAt d H p ns cs ∧ ProgAt d H q ns es ∧ progErr ns (cs ++ es) = none ∧ cs.length + es.length ≤ 100000 ∧
  ∀ r H', Same H H' → ProgAt d H' r ns (cs ++ es) → Q (.ref r) H'
/-! ### what is made, flushed and sure as the commands go -/
structure Pg where
  d : List Int
  f : List Int
  s : List Int
def pstep (x : Pg) : Cmd → Pg
  | .store l _ _ => ⟨x.d.set l.toNat (x.d.getD l.toNat 0 + 1), x.f, x.s⟩
  | .flush l => ⟨x.d, x.f.set l.toNat (x.d.getD l.toNat 0), x.s⟩
  | .fence => ⟨x.d, x.f, x.f⟩
def pinit (n : Nat) : Pg := ⟨List.replicate n 0, List.replicate n 0, List.replicate n 0⟩
def prun (n : Nat) (cs : List Cmd) : Pg := cs.foldl pstep (pinit n)
theorem prun_snoc {n : Nat} {cs : List Cmd} {c : Cmd} : prun n (cs ++ [c]) = pstep (prun n cs) c := by
  unfold prun
  rw [List.foldl_append]
  rfl
theorem pstep_len {x : Pg} {n : Nat} (c : Cmd) (h : x.d.length = n ∧ x.f.length = n ∧ x.s.length = n) : (pstep x c).d.length = n ∧ (pstep x c).f.length = n ∧ (pstep x c).s.length = n := by
  obtain ⟨h1, h2, h3⟩ := h
  cases c with
  | store l w m => exact ⟨by simpa [pstep] using h1, h2, h3⟩
  | flush l => exact ⟨h1, by simpa [pstep] using h2, h3⟩
  | fence => exact ⟨h1, h2, h2⟩
theorem prun_len (n : Nat) (cs : List Cmd) : (prun n cs).d.length = n ∧ (prun n cs).f.length = n ∧ (prun n cs).s.length = n := by
  unfold prun
  have key : ∀ (l : List Cmd) (x : Pg), (x.d.length = n ∧ x.f.length = n ∧ x.s.length = n) → ((l.foldl pstep x).d.length = n ∧ (l.foldl pstep x).f.length = n ∧ (l.foldl pstep x).s.length = n) := by
    intro l
    induction l with
    | nil => exact fun _ h => h
    | cons c r ih => exact fun x h => ih _ (pstep_len c h)
  exact key cs _ ⟨by simp [pinit], by simp [pinit], by simp [pinit]⟩
theorem take_snoc {α : Type} {cs : List α} {i : Nat} {c : α} (h : cs[i]? = some c) : cs.take (i + 1) = cs.take i ++ [c] := by
  rw [List.take_add_one, h]
  rfl
def RowAt (H : Hp) (v : V) (x : Pg) : Prop := ∃ r a b, v = .ref r ∧ H r = some (.tup [.ref a, .ref b]) ∧ H a = some (.tup (x.d.map V.int)) ∧ H b = some (.tup (x.s.map V.int))
theorem RowAt.ke {H H' : Hp} {v : V} {x : Pg} (e : Ke H H') (h : RowAt H v x) : RowAt H' v x := by
  obtain ⟨r, a, b, rfl, h1, h2, h3⟩ := h
  exact ⟨r, a, b, rfl, e _ _ h1 (fun _ z => by cases z) (fun _ z => by cases z), e _ _ h2 (fun _ z => by cases z) (fun _ z => by cases z), e _ _ h3 (fun _ z => by cases z) (fun _ z => by cases z)⟩
def rowsOf (n : Nat) (cs : List Cmd) (i : Nat) : List Pg := (List.range i).map fun j => prun n (cs.take j)
theorem rowsOf_succ (n : Nat) (cs : List Cmd) (i : Nat) : rowsOf n cs (i + 1) = rowsOf n cs i ++ [prun n (cs.take i)] := by
  unfold rowsOf
  rw [List.range_succ, List.map_append]
  rfl
def Valid (ns : List Int) (cs : List Cmd) : Prop := ∀ c ∈ cs, cmdErr ns c = none
def spProgress (d : Ad) : Sp := fun vs H Q _ => ∃ p ns cs, vs = [.ref p] ∧ ProgAt d H p ns cs ∧ Valid ns cs ∧ ns.length ≤ 6 ∧ cs.length ≤ 200 ∧
  ∀ r xs H', Same H H' → H' r = some (.lst xs) → All2 (RowAt H') xs (rowsOf ns.length cs (cs.length + 1)) → Q (.ref r) H'
def timeErr (cs : List Cmd) (t : Int) : Option PErr := if 0 ≤ t ∧ t ≤ cs.length then none else some (.time t)
def spTime (d : Ad) : Sp := fun vs H Q E => ∃ p ns cs t, vs = [.ref p, .int t] ∧ ProgAt d H p ns cs ∧ Checks d (timeErr cs t) Q E H
def spAt (d : Ad) (sel : Pg → List Int) : Sp := fun vs H Q E => ∃ p ns cs t, vs = [.ref p, .int t] ∧ ProgAt d H p ns cs ∧ Valid ns cs ∧ ns.length ≤ 6 ∧ cs.length ≤ 200 ∧
  (∀ e, timeErr cs t = some e → Raised d e E H) ∧ (timeErr cs t = none → ∀ q H', Same H H' → H' q = some (.tup ((sel (prun ns.length (cs.take t.toNat))).map V.int)) → Q (.ref q) H')
theorem Ke.mut {H H' : Hp} {p : Addr} {xs : List V} {o : HO} (e : Ke H H') (h : H' p = some (.lst xs)) : Ke H (L2.upd H' p o) := e.trans (Ke.lst h)
theorem store_line {ns : List Int} {l w n : Int} (h : cmdErr ns (.store l w n) = none) : 0 ≤ l ∧ l < ns.length := by
  by_cases hl : 0 ≤ l ∧ l < ns.length
  · exact hl
  · have e : wordErr ns l w = some (.line l) := if_neg hl
    have e2 : wordErr ns l w = none := h
    rw [e] at e2
    cases e2
theorem flush_line {ns : List Int} {l : Int} (h : cmdErr ns (.flush l) = none) : 0 ≤ l ∧ l < ns.length := by
  by_cases hl : 0 ≤ l ∧ l < ns.length
  · exact hl
  · have e : lineErr ns l = some (.line l) := if_neg hl
    have e2 : lineErr ns l = none := h
    rw [e] at e2
    cases e2
theorem cons1 {te : TE} {σ : L2.St} {H : Hp} {R : List V → Hp → Prop} (h : te σ H fun x H1 => R [x] H1) : tCons te tNil σ H R := h
theorem asg_lst1 {te : TE} {g : TG} {D : Ends} {σ : L2.St} {H : Hp} (h : te σ H fun x H1 => 1 ≤ sizeLine ∧ ∀ p, H1 p = none → g (.ref p) σ (upd H1 p (.lst [x])) D.nx) : tAsg (tLst (tCons te tNil)) g D σ H := h
end Q

namespace Q
open PySem PySem.Spec PyProof.Rows L2 LamX
/-! ### what a law draws: kinds, specs -/
inductive Kd where
  | st
  | fl
  | fe
  deriving DecidableEq
def Kd.str : Kd → Str
  | .st => "store"
  | .fl => "flush"
  | .fe => "fence"
structure Sc where
  k : Kd
  a : Int
  b : Int
  c : Int
def scV (s : Sc) : List V := [.str s.k.str, .int s.a, .int s.b, .int s.c]
def SpecAt (H : Hp) (v : V) (s : Sc) : Prop := ∃ r, v = .ref r ∧ H r = some (.tup (scV s))
theorem SpecAt.ke {H H' : Hp} {v : V} {s : Sc} (e : Ke H H') (h : SpecAt H v s) : SpecAt H' v s := by
  obtain ⟨r, rfl, h⟩ := h
  exact ⟨r, rfl, e _ _ h (fun _ z => by cases z) (fun _ z => by cases z)⟩
/-- a list of specs at p -/
def Specs (H : Hp) (p : Addr) (ss : List Sc) : Prop := ∃ vs, H p = some (.lst vs) ∧ All2 (SpecAt H) vs ss
theorem Specs.ks {S : Addr} {H H' : Hp} {p : Addr} {ss : List Sc} (hs : HasSrc S H) (ne : p ≠ S) (e : Ks S H H') (h : Specs H p ss) : Specs H' p ss := by
  obtain ⟨vs, h1, h2⟩ := h
  exact ⟨vs, e _ _ h1 ne, h2.mono fun v c q => q.ke (Ke.ks hs e)⟩
theorem Specs.same {H H' : Hp} {p : Addr} {ss : List Sc} (e : Same H H') (h : Specs H p ss) : Specs H' p ss := by
  obtain ⟨vs, h1, h2⟩ := h
  exact ⟨vs, e _ _ h1, h2.mono fun v c q => q.ke (Ke.same e)⟩
theorem Specs.ext {H H' : Hp} {p : Addr} {ss : List Sc} (e : ExtN H H') (h : Specs H p ss) : Specs H' p ss := by
  obtain ⟨vs, h1, h2⟩ := h
  exact ⟨vs, e _ _ h1 (fun _ z => by cases z), h2.mono fun v c q => q.ke (Ke.ext e)⟩
def Sc.cmd (s : Sc) : Cmd := match s.k with
  | .st => .store s.a s.b s.c
  | .fl => .flush s.a
  | .fe => .fence
def cmds (ss : List Sc) : List Cmd := ss.map Sc.cmd
/-- the line and the word are there -/
def Good (ns : List Int) (s : Sc) : Prop := (0 ≤ s.a ∧ s.a < ns.length) ∧ 0 ≤ s.b ∧ s.b < ns.getD s.a.toNat 0
theorem Good.ok {ns : List Int} {s : Sc} (g : Good ns s) : cmdErr ns s.cmd = none := by
  obtain ⟨g1, g2⟩ := g
  obtain ⟨k, a, b, c⟩ := s
  cases k with
  | st =>
    show wordErr ns a b = none
    unfold wordErr
    rw [if_pos g1, if_pos g2]
  | fl => exact if_pos g1
  | fe => rfl
theorem valid_of {ns : List Int} {ss : List Sc} (g : ∀ s ∈ ss, Good ns s) : Valid ns (cmds ss) := fun c hc => by
  obtain ⟨s, hs, rfl⟩ := List.mem_map.mp hc
  exact (g s hs).ok
theorem progErr_of {ns : List Int} {cs : List Cmd} (v : Valid ns cs) (h : cs.length ≤ 200) : progErr ns cs = none := by
  unfold progErr
  rw [if_neg (by omega)]
  exact List.findSome?_eq_none_iff.mpr v
theorem cmds_len (ss : List Sc) : (cmds ss).length = ss.length := List.length_map ..
theorem cmds_take (ss : List Sc) (t : Nat) : (cmds ss).take t = cmds (ss.take t) := by
  unfold cmds
  rw [List.map_take]
def SizesOk (ns : List Int) : Prop := (1 ≤ ns.length ∧ ns.length ≤ 6) ∧ ∀ n ∈ ns, 1 ≤ n ∧ n ≤ 4
theorem SizesOk.bad {ns : List Int} (h : SizesOk ns) : badSizes ns = none := by
  have h1 : 1 ≤ (ns.length : Int) ∧ (ns.length : Int) ≤ 6 := by
    have := h.1
    omega
  unfold badSizes
  rw [if_pos h1]
  rw [List.find?_eq_none.mpr (fun n hn => by
    rw [decide_eq_true (h.2 n hn)]
    decide)]
  rfl
/-! ### the law's own search for what is made and sure -/
def isK (k : Kd) (s : Sc) : Bool := decide (s.k = k)
def lawMade (ss : List Sc) (n t : Nat) : List Int := (List.range n).map fun (a : Nat) => ((((ss.take t).filter (isK .st)).filter fun s => decide (s.a = (a : Int))).length : Int)
def sureStep (ss : List Sc) (n : Nat) (c : Nat → Bool) (r : List Int) (i : Nat) : List Int := match ss[i]? with
  | some s => if isK .fl s && c i then r.set s.a.toNat (max (r.getD s.a.toNat 0) ((lawMade ss n i).getD s.a.toNat 0)) else r
  | none => r
def sureFold (ss : List Sc) (n : Nat) (c : Nat → Bool) (t : Nat) : List Int := (List.range t).foldl (sureStep ss n c) (List.replicate n 0)
/-- is a fence among the commands from i on, ahead of t -/
def fenceIn (ss : List Sc) (i t : Nat) : Bool := !(((ss.drop i).take (t - i)).filter (isK .fe)).isEmpty
def lawSure (ss : List Sc) (n t : Nat) : List Int := sureFold ss n (fun i => fenceIn ss i t) t
theorem sureFold_succ (ss : List Sc) (n : Nat) (c : Nat → Bool) (t : Nat) : sureFold ss n c (t + 1) = sureStep ss n c (sureFold ss n c t) t := by
  unfold sureFold
  rw [List.range_succ, List.foldl_append]
  rfl
theorem sureFold_congr {ss : List Sc} {n : Nat} {c c' : Nat → Bool} : ∀ {t : Nat}, (∀ i, i < t → c i = c' i) → sureFold ss n c t = sureFold ss n c' t
  | 0, _ => rfl
  | t + 1, h => by
    rw [sureFold_succ, sureFold_succ, sureFold_congr (t := t) fun i hi => h i (by omega)]
    unfold sureStep
    rw [h t (by omega)]
theorem lawMade_len (ss : List Sc) (n t : Nat) : (lawMade ss n t).length = n := by simp [lawMade]
theorem lawMade_at {ss : List Sc} {n t a : Nat} (h : a < n) : (lawMade ss n t).getD a 0 = ((((ss.take t).filter (isK .st)).filter fun s => decide (s.a = (a : Int))).length : Int) := by
  unfold lawMade
  rw [List.getD_eq_getElem?_getD, List.getElem?_map, List.getElem?_range h]
  rfl
theorem lawMade_zero (ss : List Sc) (n : Nat) : lawMade ss n 0 = List.replicate n 0 := by
  refine List.ext_getElem (by simp [lawMade]) fun i h1 h2 => ?_
  simp [lawMade]
/-- one more command -/
theorem lawMade_succ {ss : List Sc} {n t : Nat} {s : Sc} (h : ss[t]? = some s) : lawMade ss n (t + 1) = if isK .st s then (lawMade ss n t).set s.a.toNat ((lawMade ss n t).getD s.a.toNat 0 + (if 0 ≤ s.a then 1 else 0)) else lawMade ss n t := by
  have ht : ss.take (t + 1) = ss.take t ++ [s] := take_snoc h
  by_cases hk : isK .st s = true
  · rw [if_pos hk]
    refine List.ext_getElem (by simp [lawMade]) fun i h1 h2 => ?_
    have hi : i < n := by simpa [lawMade] using h1
    rw [List.getElem_set]
    simp only [lawMade, List.getElem_map, List.getElem_range, ht, List.filter_append, hk, List.filter_cons, List.filter_nil, if_true, List.length_append]
    by_cases e : s.a = (i : Int)
    · have e2 : s.a.toNat = i := by omega
      rw [if_pos e2, e2]
      have q := lawMade_at (ss := ss) (t := t) hi
      unfold lawMade at q
      rw [q]
      simp [e]
    · by_cases e2 : s.a.toNat = i
      · have hneg : ¬ 0 ≤ s.a := by omega
        rw [if_pos e2, e2, if_neg hneg]
        have q := lawMade_at (ss := ss) (t := t) hi
        unfold lawMade at q
        rw [q]
        simp [e]
      · rw [if_neg e2]
        simp [e]
  · rw [if_neg hk]
    unfold lawMade
    refine List.map_congr_left fun a _ => ?_
    rw [ht, List.filter_append]
    simp [hk]
theorem get_set {l : List Int} {i j : Nat} {x : Int} (h : j < l.length) : (l.set i x).getD j 0 = if i = j then x else l.getD j 0 := by
  rw [List.getD_eq_getElem?_getD, List.getD_eq_getElem?_getD, List.getElem?_set]
  split
  · rename_i q
    subst q
    simp [h]
  · rfl
/-- the program's way: done and flushed, and that what is flushed is not more than what is done -/
theorem made_flushed {ss : List Sc} {ns : List Int} (g : ∀ s ∈ ss, Good ns s) : ∀ t, t ≤ ss.length →
    (prun ns.length (cmds (ss.take t))).d = lawMade ss ns.length t ∧ (prun ns.length (cmds (ss.take t))).f = sureFold ss ns.length (fun _ => true) t ∧
      ∀ a, a < ns.length → (sureFold ss ns.length (fun _ => true) t).getD a 0 ≤ (lawMade ss ns.length t).getD a 0
  | 0, _ => by
    refine ⟨?_, rfl, fun a ha => ?_⟩
    · rw [lawMade_zero]
      rfl
    · rw [lawMade_zero]
      exact Int.le_refl _
  | t + 1, h => by
    obtain ⟨i1, i2, i3⟩ := made_flushed g t (by omega)
    have hs : ss[t]? = some ss[t] := by simp [show t < ss.length by omega]
    generalize ss[t] = s at hs
    have hg : Good ns s := g s (List.mem_of_getElem? hs)
    have e : cmds (ss.take (t + 1)) = cmds (ss.take t) ++ [s.cmd] := by
      rw [take_snoc hs]
      simp [cmds]
    rw [e, prun_snoc, sureFold_succ, lawMade_succ hs]
    have l1 := lawMade_len ss ns.length t
    have l2 : (sureFold ss ns.length (fun _ => true) t).length = ns.length := by rw [← i2]; exact (prun_len _ _).2.1
    unfold sureStep
    rw [hs]
    obtain ⟨k, a, b, c⟩ := s
    have ha : 0 ≤ a ∧ a < ns.length := hg.1
    cases k with
    | st =>
      refine ⟨?_, ?_, fun x hx => ?_⟩
      · show (prun ns.length (cmds (ss.take t))).d.set a.toNat _ = _
        rw [i1]
        simp [isK, ha.1]
      · show (prun ns.length (cmds (ss.take t))).f = _
        rw [i2]
        simp [isK]
      · have q := i3 x hx
        simp only [isK, decide_true, if_true, ha.1, show (decide (Kd.st = Kd.fl)) = false from rfl, Bool.false_and, Bool.false_eq_true, if_false]
        rw [get_set (by omega)]
        split
        · rename_i z
          rw [z]
          omega
        · exact q
    | fl =>
      refine ⟨?_, ?_, fun x hx => ?_⟩
      · show (prun ns.length (cmds (ss.take t))).d = _
        rw [i1]
        simp [isK]
      · show (prun ns.length (cmds (ss.take t))).f.set a.toNat ((prun ns.length (cmds (ss.take t))).d.getD a.toNat 0) = _
        rw [i1, i2]
        have q := i3 a.toNat (by omega)
        simp only [isK, decide_true, Bool.and_true, if_true]
        rw [Int.max_eq_right q]
      · have q := i3 x hx
        simp only [isK, decide_true, Bool.and_true, if_true, show (decide (Kd.fl = Kd.st)) = false from rfl, Bool.false_eq_true, if_false]
        rw [get_set (by omega)]
        split
        · rename_i z
          rw [z]
          have q2 := i3 x hx
          rw [Int.max_eq_right q2]
          exact Int.le_refl _
        · exact q
    | fe =>
      refine ⟨?_, ?_, fun x hx => ?_⟩
      · show (prun ns.length (cmds (ss.take t))).d = _
        rw [i1]
        simp [isK]
      · show (prun ns.length (cmds (ss.take t))).f = _
        rw [i2]
        simp [isK]
      · have q := i3 x hx
        simpa [isK] using q
theorem fenceIn_succ {ss : List Sc} {i t : Nat} {s : Sc} (h : ss[t]? = some s) (hi : i ≤ t) : fenceIn ss i (t + 1) = (fenceIn ss i t || isK .fe s) := by
  unfold fenceIn
  have e : (ss.drop i).take (t + 1 - i) = (ss.drop i).take (t - i) ++ [s] := by
    rw [show t + 1 - i = (t - i) + 1 by omega]
    refine take_snoc ?_
    rw [List.getElem?_drop, show i + (t - i) = t by omega]
    exact h
  rw [e, List.filter_append]
  by_cases q : isK .fe s = true
  · simp [q]
  · simp [q]
theorem sure_is {ss : List Sc} {ns : List Int} (g : ∀ s ∈ ss, Good ns s) : ∀ t, t ≤ ss.length → (prun ns.length (cmds (ss.take t))).s = lawSure ss ns.length t
  | 0, _ => rfl
  | t + 1, h => by
    have ih := sure_is g t (by omega)
    obtain ⟨i1, i2, i3⟩ := made_flushed g t (by omega)
    have hs : ss[t]? = some ss[t] := by simp [show t < ss.length by omega]
    generalize ss[t] = s at hs
    have e : cmds (ss.take (t + 1)) = cmds (ss.take t) ++ [s.cmd] := by
      rw [take_snoc hs]
      simp [cmds]
    rw [e, prun_snoc]
    unfold lawSure
    rw [sureFold_succ]
    by_cases hk : isK .fe s = true
    · have hkf : isK .fl s = false := by
        have : s.k = .fe := by simpa [isK] using hk
        simp [isK, this]
      have e2 : sureFold ss ns.length (fun i => fenceIn ss i (t + 1)) t = sureFold ss ns.length (fun _ => true) t := sureFold_congr fun i hi => by
        rw [fenceIn_succ hs (by omega), hk, Bool.or_true]
      rw [e2]
      unfold sureStep
      rw [hs]
      simp only [hkf, Bool.false_and, Bool.false_eq_true, if_false]
      rw [← i2]
      have : s.k = .fe := by simpa [isK] using hk
      unfold Sc.cmd
      rw [this]
      rfl
    · have hk' : isK .fe s = false := by simpa using hk
      have e2 : sureFold ss ns.length (fun i => fenceIn ss i (t + 1)) t = lawSure ss ns.length t := sureFold_congr fun i hi => by
        rw [fenceIn_succ hs (by omega), hk', Bool.or_false]
      rw [e2]
      have e3 : fenceIn ss t (t + 1) = false := by
        rw [fenceIn_succ hs (Nat.le_refl t), hk', Bool.or_false]
        unfold fenceIn
        simp
      unfold sureStep
      rw [hs]
      simp only [e3, Bool.and_false, Bool.false_eq_true, if_false]
      rw [← ih]
      obtain ⟨k, a, b, c⟩ := s
      cases k with
      | st => rfl
      | fl => rfl
      | fe => simp [isK] at hk
end Q

namespace Q
open PySem PySem.Spec PyProof.Rows L2 LamX
theorem cut_to {xs : List V} {t : Nat} : cutV xs none (some (t : Int)) = xs.take t := by
  unfold cutV
  rw [HT.sIx_none, HT.sIx_nat, List.drop_zero, Nat.sub_zero]
  by_cases h : t ≤ xs.length
  · rw [Nat.min_eq_left h]
  · rw [Nat.min_eq_right (by omega), List.take_length, List.take_of_length_le (by omega)]
theorem cut_from {xs : List V} {i t : Nat} : cutV xs (some (i : Int)) (some (t : Int)) = (xs.drop i).take (t - i) := by
  unfold cutV
  rw [HT.sIx_nat, HT.sIx_nat]
  by_cases h : i ≤ xs.length
  · rw [Nat.min_eq_left h]
    by_cases h2 : t ≤ xs.length
    · rw [Nat.min_eq_left h2]
    · rw [Nat.min_eq_right (by omega), List.take_of_length_le (by rw [List.length_drop]; omega), List.take_of_length_le (by rw [List.length_drop]; omega)]
  · have e : min i xs.length = xs.length := Nat.min_eq_right (by omega)
    rw [e, List.drop_of_length_le (Nat.le_refl _), List.drop_of_length_le (show xs.length ≤ i by omega)]
    simp
theorem cut_rest {xs : List V} {i : Nat} : cutV xs (some (i : Int)) none = xs.drop i := by
  unfold cutV
  rw [HT.sIx_none, HT.sIx_nat]
  by_cases h : i ≤ xs.length
  · rw [Nat.min_eq_left h, List.take_of_length_le (by rw [List.length_drop]; omega)]
  · have e : min i xs.length = xs.length := Nat.min_eq_right (by omega)
    rw [e, List.drop_of_length_le (Nat.le_refl _), List.drop_of_length_le (show xs.length ≤ i by omega)]
    simp
def spSizes : Sp := fun vs H Q _ => ∃ (S : Addr) (m : Int), vs = [.ref S, .int m] ∧ HasSrc S H ∧ 1 ≤ m ∧ m ≤ 6 ∧
  ∀ (p : Addr) (ns : List Int) (H' : Hp), HasSrc S H' → Ks S H H' → H' p = some (.lst (ns.map V.int)) → p ≠ S → H p = none → SizesOk ns → (ns.length : Int) ≤ m → Q (.ref p) H'
def spNumber : Sp := fun vs H Q _ => ∃ S : Addr, vs = [.ref S] ∧ HasSrc S H ∧ ∀ (z : Int) (H' : Hp), HasSrc S H' → Ks S H H' → Q (.int z) H'
def spSpecs : Sp := fun vs H Q _ => ∃ (S p : Addr) (ns : List Int) (lo hi : Int), vs = [.ref S, .ref p, .int lo, .int hi] ∧ HasSrc S H ∧ H p = some (.lst (ns.map V.int)) ∧ p ≠ S ∧ SizesOk ns ∧ 0 ≤ lo ∧ lo ≤ hi ∧ hi ≤ 200 ∧
  ∀ (r : Addr) (ss : List Sc) (H' : Hp), HasSrc S H' → Ks S H H' → Specs H' r ss → r ≠ S → H r = none → (∀ s ∈ ss, Good ns s) → lo ≤ (ss.length : Int) → (ss.length : Int) ≤ hi → Q (.ref r) H'
def spCommand (d : Ad) : Sp := fun vs H Q _ => ∃ v s, vs = [v] ∧ SpecAt H v s ∧ ∀ x H', Same H H' → CmdAt d H' (.ref x) s.cmd → Q (.ref x) H'
def spProgram (d : Ad) : Sp := fun vs H Q _ => ∃ (p q : Addr) (ns : List Int) (ss : List Sc), vs = [.ref p, .ref q] ∧ H p = some (.lst (ns.map V.int)) ∧ SizesOk ns ∧ Specs H q ss ∧ (∀ s ∈ ss, Good ns s) ∧ ss.length ≤ 200 ∧
  ∀ x H', Same H H' → ProgAt d H' x ns (cmds ss) → Q (.ref x) H'
def spLMade : Sp := fun vs H Q _ => ∃ (q : Addr) (ss : List Sc) (n t : Nat), vs = [.ref q, .int n, .int t] ∧ Specs H q ss ∧ n ≤ 6 ∧ t ≤ ss.length ∧ ss.length ≤ 200 ∧
  ∀ x H', Same H H' → H' x = some (.tup ((lawMade ss n t).map V.int)) → Q (.ref x) H'
def spLSure : Sp := fun vs H Q _ => ∃ (q : Addr) (ss : List Sc) (n t : Nat), vs = [.ref q, .int n, .int t] ∧ Specs H q ss ∧ n ≤ 6 ∧ t ≤ ss.length ∧ ss.length ≤ 200 ∧ (∀ s ∈ ss, 0 ≤ s.a ∧ s.a < n) ∧
  ∀ x H', Same H H' → H' x = some (.tup ((lawSure ss n t).map V.int)) → Q (.ref x) H'
section
variable {X : Cx} {K : PySem.W.Frag}
/-- within a comprehension's block the written part is named, since the block's context is not in reach -/
theorem ix_tupK (h : X.K = K) : IxR X (rIxT K) := by
  subst h
  exact ix_tup
theorem ix_listK (h : X.K = K) : IxR X (rIxL K) := by
  subst h
  exact ix_list
def rLenK (K : PySem.W.Frag) : List V → Hp → VK → Prop := fun xs H Q => ∃ p ys, xs = [.ref p] ∧ (SqL K H p ys ∨ SqT K H p ys) ∧ Q (.int ys.length) H
theorem call_lenK (h : X.K = K) : CallR X (.builtin "len") (rLenK K) := by
  subst h
  exact call_len_seq
theorem pi_listK {tg e : Expr} {tl : TE} (h : X.K = K) (hl : PE X e tl) : PI X tg e (iList K tl) := by
  subst h
  exact pi_list hl
theorem pi_tupK {tg e : Expr} {tl : TE} (h : X.K = K) (hl : PE X e tl) : PI X tg e (iTup K tl) := by
  subst h
  exact pi_tup hl
end
theorem filter_snoc {α : Type} {l : List α} {i : Nat} {x : α} {p : α → Bool} (h : l[i]? = some x) : (l.take (i + 1)).filter p = (l.take i).filter p ++ (if p x = true then [x] else []) := by
  rw [take_snoc h, List.filter_append]
  congr 1
  by_cases q : p x = true
  · rw [if_pos q]
    simp [q]
  · rw [if_neg q]
    simp [q]
def specD (s : Sc) : PyData := .tuple [.str s.k.str, .int s.a, .int s.b, .int s.c]
theorem dp_spec {K : PySem.W.Frag} {H : Hp} {v : V} {s : Sc} (h : SpecAt H v s) : Dp K H v (specD s) := by
  obtain ⟨r, rfl, h⟩ := h
  exact .tup (SqT.of h) (.cons (.str _) (.cons (.int _) (.cons (.int _) (.cons (.int _) .nil))))
theorem dpAll_specs {K : PySem.W.Frag} {H : Hp} : ∀ {vs : List V} {ss : List Sc}, All2 (SpecAt H) vs ss → DpAll K H vs (ss.map specD)
  | [], [], _ => .nil
  | [], _ :: _, a => by cases a.1
  | _ :: _, [], a => by cases a.1
  | v :: vs, s :: ss, a => .cons (dp_spec (a.2 0 v s rfl rfl)) (dpAll_specs ⟨Nat.succ.inj a.1, fun i x y h1 h2 => a.2 (i + 1) x y h1 h2⟩)
theorem lay_spec (s : Sc) : PyData.canLay0 (specD s) = true := by
  obtain ⟨k, a, b, c⟩ := s
  have e : PyData.canLay0 (specD ⟨k, a, b, c⟩) = (PyData.canLay0 (.str k.str) && true) := rfl
  rw [e]
  cases k <;> decide +kernel
theorem lay_specs : ∀ ss : List Sc, PyData.canLayAll0 (ss.map specD) = true
  | [] => rfl
  | s :: r => by
    show (PyData.canLay0 (specD s) && PyData.canLayAll0 (r.map specD)) = true
    rw [lay_spec, lay_specs r]
    rfl
theorem depth_specs : ∀ ss : List Sc, PyData.depthAll (ss.map specD) ≤ 1
  | [] => Nat.zero_le _
  | s :: r => by
    show max (PyData.depth (specD s)) (PyData.depthAll (r.map specD)) ≤ 1
    have h := depth_specs r
    have e : PyData.depth (specD s) = 1 := by simp [specD, PyData.depth, PyData.depthAll]
    omega
theorem shaped_specs (ss : List Sc) : SeqAt.shaped (.list (ss.map specD)) = true := by
  unfold SeqAt.shaped
  have h1 : PyData.canLay0 (.list (ss.map specD)) = true := lay_specs ss
  have h2 : PyData.depth (.list (ss.map specD)) ≤ 64 := by
    have := depth_specs ss
    simp only [PyData.depth]
    omega
  rw [h1, decide_eq_true h2]
  rfl
theorem eqv_empty (ss : List Sc) : PyData.eqv (.list (ss.map specD)) (.list []) = ss.isEmpty := by
  cases ss with
  | nil => rfl
  | cons s r => rfl
theorem max_if (i j : Int) : (if j > i then j else i) = max i j := by
  rw [Int.max_def]
  split <;> split <;> omega
theorem kd_is (k j : Kd) : decide (V.str k.str = V.str j.str) = decide (k = j) := by cases k <;> cases j <;> decide +kernel
theorem ite_kd {k : Kd} (j : Kd) {A B : Prop} (h1 : k = j → A) (h2 : k ≠ j → B) : if decide (V.str k.str = V.str j.str) = true then A else B := by
  rw [kd_is]
  by_cases h : k = j
  · rw [decide_eq_true h]
    exact iteT (h1 h)
  · rw [decide_eq_false h]
    exact iteF (h2 h)
theorem kd_isnt (k j : Kd) : (!decide (V.str k.str = V.str j.str)) = !decide (k = j) := by rw [kd_is]
theorem sizes_at {ns : List Int} {j : Nat} (h : j < ns.length) : (ns.map V.int)[j]? = some (.int (ns.getD j 0)) := by
  rw [List.getElem?_map, List.getD_eq_getElem?_getD]
  simp [h]
theorem sizes_get {ns : List Int} (h : SizesOk ns) {j : Nat} (hj : j < ns.length) : 1 ≤ ns.getD j 0 ∧ ns.getD j 0 ≤ 4 := by
  rw [List.getD_eq_getElem?_getD]
  simp only [hj, List.getElem?_eq_getElem, Option.getD_some]
  exact h.2 _ (List.getElem_mem hj)
end Q

namespace Q
open PySem PySem.Spec PyProof.Rows L2 LamX
/-- told of a call: the time that an error of the class at d.nt tells, else 'none' -/
def TRef (d : Ad) : (XK → Hp → VK → Prop) → Hp → VK → Prop := fun tl H R => ∀ (E' : XK) (R' : VK),
  (∀ (x : Addr) (t : Int) (H' : Hp), H' x = some (.xd [("time", .int t)]) → R (.int t) H' → E' (.ref d.nt) (some x) H') → (∀ (v : V) (H1 : Hp), R (.str "none") H1 → R' v H1) → tl E' H R'
def spLong (T : List (Addr × Str)) : Sp := fun vs H Q _ => ∃ S : Addr, vs = [.ref S] ∧ HasSrc S H ∧ Tabs T H ∧ ∀ H', Q (.bl true) H'
def spRightT (T : List (Addr × Str)) : Sp := fun vs H Q _ => ∃ S : Addr, vs = [.ref S] ∧ HasSrc S H ∧ Tabs T H ∧ ∀ H', Now T S H H' → Q (.bl true) H'
theorem made_is {ss : List Sc} {ns : List Int} (g : ∀ s ∈ ss, Good ns s) {t : Nat} (h : t ≤ ss.length) : (prun ns.length ((cmds ss).take t)).d = lawMade ss ns.length t := by
  rw [cmds_take]
  exact (made_flushed g t h).1
theorem sure_is2 {ss : List Sc} {ns : List Int} (g : ∀ s ∈ ss, Good ns s) {t : Nat} (h : t ≤ ss.length) : (prun ns.length ((cmds ss).take t)).s = lawSure ss ns.length t := by
  rw [cmds_take]
  exact sure_is g t h
theorem time_ok {cs : List Cmd} {t : Nat} (h : t ≤ cs.length) : timeErr cs (t : Int) = none := if_pos ⟨by omega, by omega⟩
theorem time_bad {cs : List Cmd} {t : Int} (h : t < 0 ∨ (cs.length : Int) < t) : timeErr cs t = some (.time t) := if_neg (by omega)
/-- a program and its specs, as a law's def has them -/
structure Has (d : Ad) (H : Hp) (sz sp pg : Addr) (ns : List Int) (ss : List Sc) : Prop where
  ok : SizesOk ns
  sz : H sz = some (.lst (ns.map V.int))
  sp : Specs H sp ss
  pg : ProgAt d H pg ns (cmds ss)
  good : ∀ s ∈ ss, Good ns s
theorem Has.same {d : Ad} {H H' : Hp} {sz sp pg : Addr} {ns : List Int} {ss : List Sc} (h : Has d H sz sp pg ns ss) (e : Same H H') : Has d H' sz sp pg ns ss := ⟨h.ok, e _ _ h.sz, h.sp.same e, h.pg.ke (Ke.same e), h.good⟩
theorem Has.ks {d : Ad} {S : Addr} {H H' : Hp} {sz sp pg : Addr} {ns : List Int} {ss : List Sc} (h : Has d H sz sp pg ns ss) (hs : HasSrc S H) (e : Ks S H H') (n1 : sz ≠ S) (n2 : sp ≠ S) : Has d H' sz sp pg ns ss :=
  ⟨h.ok, e _ _ h.sz n1, h.sp.ks hs n2 e, h.pg.ke (Ke.ks hs e), h.good⟩
theorem Has.ext {d : Ad} {H H' : Hp} {sz sp pg : Addr} {ns : List Int} {ss : List Sc} (h : Has d H sz sp pg ns ss) (e : ExtN H H') : Has d H' sz sp pg ns ss :=
  ⟨h.ok, e _ _ h.sz (fun _ z => by cases z), h.sp.ext e, h.pg.ke (Ke.ext e), h.good⟩
section
variable {d : Ad} {K : PySem.W.Frag} {H : Hp} {sz sp pg : Addr} {ns : List Int} {ss : List Sc}
theorem Has.n6 (h : Has d H sz sp pg ns ss) : ns.length ≤ 6 := h.ok.1.2
theorem Has.lines (h : Has d H sz sp pg ns ss) : ∀ s ∈ ss, 0 ≤ s.a ∧ s.a < (ns.length : Nat) := fun s hs => (h.good s hs).1
/-- made(program, t), t a time: what the law's search makes -/
theorem Has.made (h : Has d H sz sp pg ns ss) (h200 : ss.length ≤ 200) {t : Nat} (ht : t ≤ ss.length) {R : VK} {E : XK} (k : ∀ q H', Same H H' → H' q = some (.tup ((lawMade ss ns.length t).map V.int)) → R (.ref q) H') : spAt d Pg.d [.ref pg, .int (t : Int)] H R E := by
  refine ⟨pg, ns, cmds ss, t, rfl, h.pg, valid_of h.good, h.n6, by rw [cmds_len]; exact h200, fun e z => ?_, fun _ q H' e hq => k q H' e ?_⟩
  · rw [time_ok (by rw [cmds_len]; exact ht)] at z
    cases z
  · rw [Int.toNat_natCast, made_is h.good ht] at hq
    exact hq
theorem Has.sure (h : Has d H sz sp pg ns ss) (h200 : ss.length ≤ 200) {t : Nat} (ht : t ≤ ss.length) {R : VK} {E : XK} (k : ∀ q H', Same H H' → H' q = some (.tup ((lawSure ss ns.length t).map V.int)) → R (.ref q) H') : spAt d Pg.s [.ref pg, .int (t : Int)] H R E := by
  refine ⟨pg, ns, cmds ss, t, rfl, h.pg, valid_of h.good, h.n6, by rw [cmds_len]; exact h200, fun e z => ?_, fun _ q H' e hq => k q H' e ?_⟩
  · rw [time_ok (by rw [cmds_len]; exact ht)] at z
    cases z
  · rw [Int.toNat_natCast, sure_is2 h.good ht] at hq
    exact hq
/-- .. and of a time that is none -/
theorem Has.bad (h : Has d H sz sp pg ns ss) (h200 : ss.length ≤ 200) {t : Int} (ht : t < 0 ∨ (ss.length : Int) < t) {sel : Pg → List Int} {R : VK} {E : XK} (k : Raised d (.time t) E H) : spAt d sel [.ref pg, .int t] H R E := by
  have hb : timeErr (cmds ss) t = some (.time t) := time_bad (by rw [cmds_len]; exact ht)
  refine ⟨pg, ns, cmds ss, t, rfl, h.pg, valid_of h.good, h.n6, by rw [cmds_len]; exact h200, fun e z => ?_, fun z => ?_⟩
  · rw [hb] at z
    cases z
    exact k
  · rw [hb] at z
    cases z
end
end Q
namespace Q
open PySem PySem.Spec PyProof.Rows L2 LamX
/-- two tuples of numbers in a tuple -/
def pairD (xs ys : List Int) : PyData := .tuple [.tuple (xs.map PyData.int), .tuple (ys.map PyData.int)]
theorem pair_shaped (xs ys : List Int) : SeqAt.shaped (pairD xs ys) = true := by
  unfold SeqAt.shaped pairD
  have h1 : PyData.canLay0 (.tuple [.tuple (xs.map PyData.int), .tuple (ys.map PyData.int)]) = true := by
    simp only [PyData.canLay0, PyData.canLayAll0, lay_ints, Bool.and_true]
  have h2 : PyData.depth (.tuple [.tuple (xs.map PyData.int), .tuple (ys.map PyData.int)]) ≤ 64 := by
    simp [PyData.depth, PyData.depthAll, depth_ints]
  rw [h1, decide_eq_true h2]
  rfl
theorem dp_pair {K : PySem.W.Frag} {H : Hp} {p a b : Addr} {xs ys : List Int} (hp : H p = some (.tup [.ref a, .ref b])) (ha : H a = some (.tup (xs.map V.int))) (hb : H b = some (.tup (ys.map V.int))) : Dp K H (.ref p) (pairD xs ys) :=
  .tup (SqT.of hp) (.cons (.tup (SqT.of ha) (dpAll_ints xs)) (.cons (.tup (SqT.of hb) (dpAll_ints ys)) .nil))
theorem Now.dp {T : List (Addr × Str)} {K : PySem.W.Frag} {H H' : Hp} {v : V} {x : PyData} (e : Same H H') (h : Dp K H v x) : Dp K H' v x := dp_same e h
end Q

namespace Q
open PySem PySem.Spec PyProof.Rows L2 LamX
theorem int_of_mem {ns : List Int} {x : V} (h : x ∈ ns.map V.int) : ∃ n, x = .int n := by
  obtain ⟨n, _, rfl⟩ := List.mem_map.mp h
  exact ⟨n, rfl⟩
/-- the law's own list stays, where a source is new and only the source changes -/
theorem sq_kp {K : PySem.W.Frag} {H1 H3 : Hp} {S a : Addr} {xs : List V} {o : HO} (h0 : H1 S = none) (q : SqL K H1 a xs) (e : Kp S (upd H1 S o) H3) : SqL K H3 a xs := by
  have step : ∀ u, H1 a = some u → (∀ ps, u ≠ .tbl ps) → H3 a = some u := fun u hu nt => by
    have ne : a ≠ S := ne_of_none hu h0
    exact e a u (by rw [upd_ne ne]; exact hu) ne nt
  rcases q with (q | ⟨o', q⟩) | q
  · exact .inl (.inl (step _ q (fun ps z => by cases z)))
  · exact .inl (.inr ⟨o', step _ q (fun ps z => by cases z)⟩)
  · exact .inr q
end Q

namespace Q
open PySem PySem.W PySem.Calls PyProof.Rows
/-- err.m, ahead of the call err.m() -/
theorem exc_method {prog : Program} {w : World} {A : Around} {E : Value → Shared → Prop} {s : Shared} {K : Frag} {x C g : Addr} {ox : Obj} {od : Option Obj} {name : Str} {pl : Sem Bool} {Q : Value × List Value → Shared → Prop}
    (kin : K.In s.heap) (at_ : PySem.W.InstAt s.heap x ox C od) (e1 : findIn K (.ref C) "__getattribute__" = some (some (.builtin "BaseException.__getattribute__"))) (e2 : findIn K (.ref C) "__getattr__" = some none)
    (e3 : findIn K (.ref C) name = some (some (.ref g))) (e4 : typeIn K (.ref g) = some (.type "function")) (e5 : ∀ o, od = some o → lookIn name o = some none)
    (q : Q (.ref g, [.ref x]) s) : wpAny (model prog w) A (getMethod (.ref x) name pl) Q E s := by
  have c0 : (Manifest.canonical "BaseException.__getattribute__" != "object.__getattribute__") = false := by decide +kernel
  unfold getMethod specialOf
  refine wpAny_bind (wpAny_bind (at_.type.here ((looks_findIn kin e1).here ?_)))
  dsimp only
  rw [c0, if_neg (by decide)]
  refine wpAny_bind (wpAny_bind (at_.type.here ((looks_findIn kin e2).here ?_)))
  refine wpAny_bind (wpAny_bind (at_.type.here ((looks_findIn kin e3).here (wpAny_bind ((looks_typeIn kin e4).here ?_)))))
  rw [if_neg (by decide +kernel)]
  refine wpAny_bind (wpAny_loadPart at_.at_ ?_)
  have dd := at_.dict
  cases z : ox.dict with
  | none => exact wpAny_bind (wpAny_rule (wpAny_pure q))
  | some dx =>
    cases od with
    | none => rw [z] at dd; exact dd.elim
    | some o =>
      rw [z] at dd
      refine wpAny_bind (wpAny_bind (wpAny_loadPart dd ?_))
      rw [nsLook_of (e5 o rfl)]
      exact wpAny_pure (wpAny_bind (wpAny_rule (wpAny_pure q)))
end Q
namespace Q
open PySem PySem.Spec PyProof.Rows L2 LamX
/-- a def that may be called while an exception is handled; it raises nothing itself -/
structure FnC (P : Program) (w : World) (K : PySem.W.Frag) (mg : Str → Option Value) (base : Heap) (k : Nat) (f : Addr) (fd : FuncData) (ps : List Str) (sp : Sp) : Prop where
  lenC : ∀ vs H Q E, sp vs H Q E → vs.length = ps.length
  runC : ∀ (A : Around) (outer : List Env) (s : Shared) (H : Hp) (args : Args) (us : List Value) (vs : List V) (Q : VK) (p : Addr × Obj), L2H.RoomH k A → L2H.PinOk outer H s p → Env0 P w K mg base A outer s H → BindsTo s fd args (ps.zip us) → Vals vs us → sp vs H Q E0 →
    codeAny (model P w) A (.call (.ref f) args) (CR CX0 outer P w H s Q E0) s
theorem fn_ofC {P : Program} {w : World} {K : PySem.W.Frag} {mg : Str → Option Value} {base : Heap} {k : Nat} {f : Addr} {name qual : Str} {pa : Arguments} {body : List Stmt} {sc : Scope} {dV kV doc pm cd ct oc : Value} {an od : Option Addr}
    {sl : Array (Option Value)} {N ps : List Str} {sp : Sp} (lk : K.lookup f = some ⟨oc, od, .func (PySem.W.fnOf name qual pa body sc dV kV doc pm an cd ct), sl⟩) (hcd : PySem.W.codeIn K cd qual = true) (S : FnScope N ps sc)
    (len : ∀ vs H Q E, sp vs H Q E → vs.length = ps.length)
    (hbody : ∀ (A : Around) (outer : List Env) (s : Shared) (H : Hp) (vs : List V) (Q : VK) (p : Addr × Obj), L2H.RoomH k (A.deeper (envOfC qual sc s.heap.objs.size f cd)) → sp vs H Q E0 →
      ∃ t, PSs (L2H.cxH CX0 P w K mg base N qual sc f cd A outer s H E0 p) body t ∧ t { nx := fun _ H' => Q .non H', rt := Q } (L2.start N vs) H) :
    FnC P w K mg base (k + 1) f (PySem.W.fnOf name qual pa body sc dV kV doc pm an cd ct) ps sp := by
  refine ⟨len, fun A outer s H args us vs Q p hr pin e0 hb r hsp => ?_⟩
  have nL : vs.length = ps.length := len _ _ _ _ hsp
  have kS : K.In s.heap := e0.mod.kin.keeps fun b o z => (e0.bs b o z).1
  have lS : s.heap.NoLimit := e0.mod.nolimit.keeps fun b o z => (e0.bs b o z).1
  have kinds : ∀ y ∈ ps.zip us, sc.names.lookup y.1 = some .local ∨ (sc.names.lookup y.1 = some .cell ∧ ((cellsFrom (s.heap.objs.size + 1) sc.names []).lookup y.1).isSome = true) := fun y hy => by
    rcases S.par y.1 (List.of_mem_zip hy).1 with z | z
    · exact .inl z
    · exact .inr ⟨z, PySem.W.cellsFrom_some _ _ _ (.inl z)⟩
  refine codeAny_call_function hr.depth (kS _ _ lk) rfl S.co S.gen rfl (PySem.W.codeRec_of kS hcd) (hb _ _ _ _ (wpAny_newFunctionEnv_cells S.kind kinds fun env z s1 x => ?_))
  subst z
  obtain ⟨t, ht, hq⟩ := hbody A outer s H vs Q p (hr.deeper _) hsp
  refine ⟨lS.keeps x.toInCall.keep, codeAny_func ?_⟩
  have I0 := L2H.inv_startH (CX := CX0) (E := E0) (mg := mg) (base := base) S pin e0 nL r x
  refine wpAny_mono (ht.run [] s1 (L2.start N vs) H _ I0 hq) (fun fl s' hs => ?_) fun e s' hs => hs
  cases fl with
  | ret u =>
    obtain ⟨v, σ', H', J, rv, q⟩ := hs
    exact ⟨v, H', J.os, J.bare, J.base, J.hok, rv, q⟩
  | next =>
    obtain ⟨σ', H', J, q⟩ := hs
    exact ⟨V.non, H', J.os, J.bare, J.base, J.hok, rfl, q⟩
  | brk =>
    obtain ⟨_, _, _, q⟩ := hs
    exact q.elim
  | cont =>
    obtain ⟨_, _, _, q⟩ := hs
    exact q.elim
/-- a method of an error class -/
structure XMeth (K : PySem.W.Frag) (C : Addr) (m : Str) (g : Addr) : Prop where
  at_ : PySem.W.findIn K (.ref C) m = some (some (.ref g))
  fn : PySem.W.isFn K (.ref g) = true
  kp : PySem.W.keepIn K (.ref g) = true
/-- err.m(): err the caught error at a, of the class at C, its dict at d -/
def tXm (a : Addr) (cls : Value) (d : Option Addr) (C : Addr) (m : Str) (sp : Sp) (te : TE) : TE := fun σ H Q => te σ H fun x H1 => x = .ref a ∧ cls = .ref C ∧ (∀ dd, d = some dd → ∃ fs : List (Str × V), H1 dd = some (.xd fs) ∧ fs.lookup m = none) ∧ sp [.ref a] H1 Q E0
theorem pe_xm {X : Cx} {k : Nat} {a C g : Addr} {fd : FuncData} {ps : List Str} {oe : Obj} {cls : Value} {d : Option Addr} {pn : List (Addr × Obj)} {e : Expr} {te : TE} {apos pos : Pos} {m : Str} {sp : Sp} {pl : Sem Bool} (T : XfC X.K C) (b : XMeth X.K C m g)
    (F : FnC X.prog X.w X.K X.mg X.base k g fd ps sp) (hb : Binds X.K fd ps []) (hr : Room k X.A)
    (hz : Zc cls d oe) (hf : ∃ vs, oe.data = .fields vs) (he : PE (X.suite a ((a, oe) :: pn)) e te)
    (ht : eval (.Call (.Attribute e m apos) [] [] pos) X.env = (do
      let v0 ← eval e X.env
      standAt apos.atName
      let (f, fst) ← holding [v0] (getMethod v0 m pl)
      callWith pos f fst (backTo pos (starEach [] X.env)) (backToKw pos (keywordEach [] X.env))) := by rfl) :
    PE (X.suite a ((a, oe) :: pn)) (.Call (.Attribute e m apos) [] [] pos) (tXm a cls d C m sp te) := by
  refine ⟨fun pins s σ H Q I h => ?_⟩
  refine PySem.W.methodCall_KW (pl := pl) (thn (he.run pins s σ H _ I h) fun u s1 hh => ?_) ht
  obtain ⟨x, H1, I1, rx, ex, ec, dd, q⟩ := hh
  subst ex
  obtain rfl : u = Value.ref a := rx
  subst ec
  have P1 := I1.pin (a, oe) (List.mem_append_left _ List.mem_cons_self)
  obtain ⟨vs, hd⟩ := hf
  have hno : PySem.W.notCls oe = true := by unfold PySem.W.notCls; rw [hd] <;> rfl
  have J : ∃ od, PySem.W.InstAt s1.heap a oe C od ∧ ∀ o, od = some o → PySem.W.lookIn m o = some none := by
    cases d with
    | none => exact ⟨none, ⟨P1.1, hz.1, hno, by rw [hz.2]; trivial⟩, fun o z => by cases z⟩
    | some dx =>
      obtain ⟨fs, ea, l⟩ := dd dx rfl
      have hxo : ObjOk X.prog X.w H1 s1.heap dx (.xd fs) := I1.hok dx _ ea
      obtain ⟨mA, hns, hr1⟩ := hxo
      obtain ⟨od, ho, hl⟩ := lookIn_ns hns
      have hn : mA m = none := RelO.none_of (by rw [← l]; exact hr1 m)
      exact ⟨some od, ⟨P1.1, hz.1, hno, by rw [hz.2]; exact ho⟩, fun o z => by cases z; rw [hl, hn]⟩
  obtain ⟨od, J, hod⟩ := J
  refine exc_method I1.kIn J T.ga T.gg b.at_ (beq_iff_eq.mp b.fn) hod ?_
  refine PySem.W.callWith_K0 (first := [.ref a]) I1.kIn b.kp ?_
  have nL : [V.ref a].length = ps.length := F.lenC _ _ _ _ q
  have bb := hb s1 [.ref a] I1.kIn (by rw [List.append_nil]; exact nL)
  rw [List.append_nil] at bb
  have pin : L2H.PinOk (X.suite a ((a, oe) :: pn)).stack H1 s1 (a, oe) := ⟨P1.1, P1.2.1, fun z => (List.mem_cons.mp (I1.stkSub a z)).elim P1.2.2.1 P1.2.2.2.1, P1.2.2.2.2⟩
  refine wpAny_call (codeAny_mono (F.runC _ _ s1 H1 ⟨[.ref a], []⟩ [.ref a] [.ref a] Q (a, oe) ⟨hr.dp, hr.un⟩ pin I1.env0 bb (.cons rfl .nil) q) fun r s2 hq => ?_)
  cases r with
  | error e => exact hq.elim
  | ok fl =>
    cases fl with
    | ret u => exact I1.after hq
    | next => exact hq.elim
    | brk => exact hq.elim
    | cont => exact hq.elim
/-- X(), X an own exception class without own __init__ -/
theorem pmk_own0 {X : Cx} {C : Addr} {bmB : List Value} {B newId initId : String} {x : Str} {p pos : Pos} (F : ExcBaseFacts B newId initId bmB) (q : PySem.W.excIn X.K C bmB newId = true) (gC : X.mg x = some (.ref C))
    (kC : PySem.W.keepIn X.K (.ref C) = true) (r : Raises X (.ref C)) (hg : Gl X x) (hdb : (x == ("__debug__" : Str)) = false := by decide) :
    PMk X (.Call (.Name x p) [] [] pos) (fun _ H Q => Q (.ref C) none H) := by
  intro pins s σ H Q I h
  refine wpAny_Call_Name_kw (ld_glob I hg gC ?_ hdb)
  refine PySem.W.callWith_K0 I.kIn kC ?_
  show wpAny _ _ (call (.ref C) []) _ _ _
  obtain ⟨m0, N0, n0, q0, b0, d0, s0, u0, a0, c0, g0, k0, k1, k2, k3, k5, mN, hC, hN, hni, T⟩ := exc_obj I.kIn q
  exact wpAny_call_exc_subT F T hC hN hni (fun h' e hm => mk_of I hm r h (I.hok.gone hm.new)) (Nat.zero_le _)
end Q

namespace Q
open PySem PySem.Spec PyProof.Rows L2 LamX
/-- a or b of values: a is None, or a tuple that is not empty -/
def tOrN (ta tb : TE) : TE := fun σ H Q => ta σ H fun x H1 => (x = .non ∧ tb σ H1 Q) ∨ ∃ a y ys, x = .ref a ∧ H1 a = some (.tup (y :: ys)) ∧ Q x H1
theorem pe_orN {X : Cx} {a b : Expr} {rest : List Expr} {pos : Pos} {ta tb : TE} (ha : PE X a ta) (hb : PE X (.BoolOp .Or (b :: rest) pos) tb) : PE X (.BoolOp .Or (a :: b :: rest) pos) (tOrN ta tb) := by
  refine ⟨fun pz s σ H Q I h => ?_⟩
  refine BoolOp_or (thn (ha.run pz s σ H _ I h) fun v s1 hh => ?_)
  obtain ⟨x, H1, I1, r1, h1 | ⟨p, y, ys, ex, hp, q⟩⟩ := hh
  · obtain ⟨ex, q⟩ := h1
    subst ex
    obtain rfl : v = Value.none := r1
    exact wpAny_pure (hb.run pz s1 σ H1 Q I1 q)
  · subst ex
    obtain rfl : v = Value.ref p := r1
    obtain ⟨its, r, e, z⟩ := I1.tuple (.inl (.inl hp))
    have hl := line63
    have hlen := r.length
    refine truthy_tuple e (by simp only [List.size_toArray]; omega) ?_
    have ne : (!its.toArray.isEmpty) = true := by
      cases r
      rfl
    rw [ne]
    exact ⟨.ref p, H1, I1.tok _, rfl, q⟩
/-! ### the outcome of a call: the result, or the error's name and fields -/
def tagOf : PErr → List V
  | .count w n => [.str "count", .str w, .int n]
  | .line n => [.str "line", .int n]
  | .word n => [.str "word", .int n]
  | .time n => [.str "time", .int n]
def notTime : PErr → Bool
  | .time _ => false
  | _ => true
def TOutX (d : Ad) (CO : Addr) : (XK → Hp → VK → Prop) → Hp → VK → Prop := fun tl H R => ∀ (E' : XK) (R' : VK),
  (∀ (e : PErr) (x : Addr) (H' : Hp), notTime e = true → H' x = some (.xd (errFs e)) → (∀ p, H' p = none → R (.ref p) (upd H' p (.tup (tagOf e)))) → E' (.ref (d.err e)) (some x) H') →
  (∀ H', (∀ p, H' p = none → R (.ref p) (upd H' p (.tup [.str "refused othermemory"]))) → E' (.ref CO) none H') →
  (∀ (v : V) (H1 : Hp), (∀ p, H1 p = none → R (.ref p) (upd H1 p (.tup [.str "ok", v]))) → R' v H1) → tl E' H R'
/-- what a def without parameters but self tells -/
def spTold (z : Str) : Sp := fun vs H Q _ => ∃ a, vs = [.ref a] ∧ Q (.str z) H
theorem exm_yes {K : PySem.W.Frag} {C S : Addr} (h1 : PySem.W.subIn K (.ref S) (.type "BaseException") = some true) (h2 : PySem.W.isClsIn K S = true) (h3 : PySem.W.typeIn K (.ref S) = some (.type "type")) {b : Bool} (h4 : PySem.W.subIn K (.ref C) (.ref S) = some b) :
    PySem.W.exmOne K (.ref C) (.ref S) = some b := by
  have e1 : (PySem.W.subIn K (.ref S) (.type "BaseException") == some true) = true := by rw [h1] <;> rfl
  have e2 : ((PySem.W.clsIn K S).isSome && PySem.W.typeIn K (.ref S) == some (.type "type")) = true := by
    have h5 : (PySem.W.clsIn K S).isSome = true := h2
    rw [h5, h3] <;> rfl
  show (if (PySem.W.subIn K (.ref S) (.type "BaseException") == some true) = true then (if ((PySem.W.clsIn K S).isSome && PySem.W.typeIn K (.ref S) == some (.type "type")) = true then PySem.W.subIn K (.ref C) (.ref S) else none) else none) = some b
  rw [if_pos e1, if_pos e2]
  exact h4
/-! ### programs that may be refused -/
def spProgramX (d : Ad) : Sp := fun vs H Q E => ∃ (p q : Addr) (ns : List Int) (ss : List Sc), vs = [.ref p, .ref q] ∧ H p = some (.lst (ns.map V.int)) ∧ SizesOk ns ∧ Specs H q ss ∧ ss.length ≤ 400 ∧
  (∀ e, progErr ns (cmds ss) = some e → ∀ H', Same H H' → Raised d e E H') ∧ (progErr ns (cmds ss) = none → ∀ x H', Same H H' → ProgAt d H' x ns (cmds ss) → Q (.ref x) H')
def spAddX (d : Ad) (CO : Addr) : Sp := fun vs H Q E => ∃ p q ns ms cs es, vs = [.ref p, .ref q] ∧ ProgAt d H p ns cs ∧ ProgAt d H q ms es ∧ cs.length + es.length ≤ 100000 ∧
  (ns ≠ ms → E (.ref CO) none H) ∧ (ns = ms → (∀ e, progErr ns (cs ++ es) = some e → ∀ H', Same H H' → Raised d e E H') ∧ (progErr ns (cs ++ es) = none → ∀ r H', Same H H' → ProgAt d H' r ns (cs ++ es) → Q (.ref r) H'))
/-! ### commands with an invalid part -/
def isLW : PErr → Bool
  | .line _ => true
  | .word _ => true
  | _ => false
def spBent : Sp := fun vs H Q _ => ∃ (S sz : Addr) (v : V) (ns : List Int) (s : Sc), vs = [.ref S, .ref sz, v] ∧ HasSrc S H ∧ H sz = some (.lst (ns.map V.int)) ∧ sz ≠ S ∧ SizesOk ns ∧ SpecAt H v s ∧ Good ns s ∧
  ∀ (r q e : Addr) (s' : Sc) (er : PErr) (H' : Hp), HasSrc S H' → Ks S H H' → H' r = some (.tup [.ref q, .ref e]) → SpecAt H' (.ref q) s' → H' e = some (.tup (tagOf er)) → cmdErr ns s'.cmd = some er → isLW er = true → Q (.ref r) H'
end Q

namespace Q
open PySem PySem.Spec PyProof.Rows L2 LamX
theorem All2.set {α : Type} {R : V → α → Prop} {vs : List V} {cs : List α} {i : Nat} {v : V} {c : α} (a : All2 R vs cs) (h : R v c) : All2 R (vs.set i v) (cs.set i c) := by
  refine ⟨by rw [List.length_set, List.length_set]; exact a.1, fun j x y h1 h2 => ?_⟩
  by_cases e : i = j
  · subst e
    have l1 : i < vs.length := by
      have := (List.getElem?_eq_some_iff.mp h1).1
      rwa [List.length_set] at this
    rw [List.getElem?_set_self l1] at h1
    rw [List.getElem?_set_self (by rw [← a.1]; exact l1)] at h2
    cases h1
    cases h2
    exact h
  · rw [List.getElem?_set_ne e] at h1
    rw [List.getElem?_set_ne e] at h2
    exact a.2 j x y h1 h2
theorem All2.rep {α : Type} {R : V → α → Prop} {vs : List V} {cs : List α} (a : All2 R vs cs) : ∀ n : Nat, All2 R (List.replicate n vs).flatten (List.replicate n cs).flatten
  | 0 => by
    rw [List.replicate_zero, List.replicate_zero]
    exact All2.nil
  | n + 1 => by
    rw [List.replicate_succ, List.replicate_succ, List.flatten_cons, List.flatten_cons]
    exact a.app (All2.rep a n)
theorem rep_len {α : Type} (xs : List α) : ∀ n : Nat, (List.replicate n xs).flatten.length = n * xs.length
  | 0 => by simp
  | n + 1 => by
    rw [List.replicate_succ, List.flatten_cons, List.length_append, rep_len xs n, Nat.succ_mul, Nat.add_comm]
/-- a value that is None or an error's name and fields -/
def Due (H : Hp) (v : V) (o : Option PErr) : Prop := match o with
  | none => v = .non
  | some e => ∃ q, v = .ref q ∧ H q = some (.tup (tagOf e))
theorem Due.ke {H H' : Hp} {v : V} {o : Option PErr} (e : Ke H H') (h : Due H v o) : Due H' v o := by
  cases o with
  | none => exact h
  | some er =>
    obtain ⟨q, rfl, hq⟩ := h
    exact ⟨q, rfl, e _ _ hq (fun _ z => by cases z) (fun _ z => by cases z)⟩
theorem tag_cons (e : PErr) : ∃ y ys, tagOf e = y :: ys := by cases e <;> exact ⟨_, _, rfl⟩
def tagD : PErr → List PyData
  | .count w n => [.str "count", .str w, .int n]
  | .line n => [.str "line", .int n]
  | .word n => [.str "word", .int n]
  | .time n => [.str "time", .int n]
theorem dp_tag {K : PySem.W.Frag} {H : Hp} {q : Addr} {e : PErr} (h : H q = some (.tup (tagOf e))) : Dp K H (.ref q) (.tuple (tagD e)) := by
  refine .tup (SqT.of h) ?_
  cases e with
  | count w n => exact .cons (.str _) (.cons (.str _) (.cons (.int _) .nil))
  | line n => exact .cons (.str _) (.cons (.int _) .nil)
  | word n => exact .cons (.str _) (.cons (.int _) .nil)
  | time n => exact .cons (.str _) (.cons (.int _) .nil)
theorem shaped_of {d : PyData} (h1 : PyData.canLay0 d = true) (h2 : PyData.depth d ≤ 64) : SeqAt.shaped d = true := by
  unfold SeqAt.shaped
  rw [h1, decide_eq_true h2]
  rfl
theorem tag_shaped {e : PErr} (h : isLW e = true) : SeqAt.shaped (.tuple (tagD e)) = true := by
  cases e with
  | count w n => cases h
  | time n => cases h
  | line n =>
    refine shaped_of ?_ (by simp [tagD, PyData.depth, PyData.depthAll])
    have z : PyData.canLay0 (.tuple (tagD (.line n))) = (PyData.canLay0 (.str "line") && true) := rfl
    rw [z]
    decide +kernel
  | word n =>
    refine shaped_of ?_ (by simp [tagD, PyData.depth, PyData.depthAll])
    have z : PyData.canLay0 (.tuple (tagD (.word n))) = (PyData.canLay0 (.str "word") && true) := rfl
    rw [z]
    decide +kernel
theorem cmds_shaped (n : Int) : SeqAt.shaped (.tuple (tagD (.count "commands" n))) = true := by
  refine shaped_of ?_ (by simp [tagD, PyData.depth, PyData.depthAll])
  have z : PyData.canLay0 (.tuple (tagD (.count "commands" n))) = (PyData.canLay0 (.str "count") && (PyData.canLay0 (.str "commands") && true)) := rfl
  rw [z]
  decide +kernel
theorem prog_short {ns : List Int} {cs : List Cmd} (h : cs.length ≤ 200) : progErr ns cs = cs.findSome? (cmdErr ns) := if_neg (by omega)
theorem prog_long {ns : List Int} {cs : List Cmd} (h : 200 < cs.length) : progErr ns cs = some (.count "commands" cs.length) := if_pos h
theorem cmds_snoc (ss : List Sc) (s : Sc) : cmds (ss ++ [s]) = cmds ss ++ [s.cmd] := by simp [cmds]
theorem find_snoc {ns : List Int} {cs : List Cmd} {c : Cmd} : (cs ++ [c]).findSome? (cmdErr ns) = (cs.findSome? (cmdErr ns)).or (cmdErr ns c) := by
  rw [List.findSome?_append]
  cases h : cs.findSome? (cmdErr ns) with
  | none => simp [List.findSome?]; cases cmdErr ns c <;> rfl
  | some e => rfl
end Q

namespace Q
open PySem PySem.Spec PyProof.Rows L2 LamX
/-- n times one command -/
def rs (n : Nat) (s : Sc) : List Sc := (List.replicate n [s]).flatten
def rc (n : Nat) (s : Sc) : List Cmd := cmds (rs n s)
theorem rs_len (n : Nat) (s : Sc) : (rs n s).length = n := by
  unfold rs
  rw [rep_len]
  simp
theorem rc_len (n : Nat) (s : Sc) : (rc n s).length = n := by
  unfold rc
  rw [cmds_len, rs_len]
theorem rc_ok {ns : List Int} {s : Sc} (h : cmdErr ns s.cmd = none) : ∀ n : Nat, (rc n s).findSome? (cmdErr ns) = none
  | 0 => rfl
  | n + 1 => by
    have e : rc (n + 1) s = s.cmd :: rc n s := by
      unfold rc rs
      rw [List.replicate_succ, List.flatten_cons]
      rfl
    rw [e, List.findSome?_cons, h]
    exact rc_ok h n
theorem rc_none {ns : List Int} {s : Sc} (h : cmdErr ns s.cmd = none) {n : Nat} (hn : n ≤ 200) : progErr ns (rc n s) = none := by
  rw [prog_short (by rw [rc_len]; exact hn)]
  exact rc_ok h n
theorem rc_sum {ns : List Int} {s t : Sc} (h : cmdErr ns s.cmd = none) (h2 : cmdErr ns t.cmd = none) {n m : Nat} : progErr ns (rc n s ++ rc m t) = if 200 < n + m then some (.count "commands" ((n + m : Nat) : Int)) else none := by
  have hl : (rc n s ++ rc m t).length = n + m := by rw [List.length_append, rc_len, rc_len]
  by_cases z : 200 < n + m
  · rw [if_pos z, prog_long (by rw [hl]; exact z), hl]
  · rw [if_neg z, prog_short (by rw [hl]; omega), List.findSome?_append, rc_ok h, rc_ok h2]
    rfl
theorem rs_at {H : Hp} {z q : Addr} {s : Sc} {n : Nat} (hz : H z = some (.lst (List.replicate n [V.ref q]).flatten)) (hq : H q = some (.tup (scV s))) : Specs H z (rs n s) := by
  refine ⟨_, hz, All2.rep ?_ n⟩
  exact All2.snoc (vs := []) (cs := []) .nil ⟨q, rfl, hq⟩
def feS : Sc := ⟨.fe, 0, 0, 0⟩
def flS : Sc := ⟨.fl, 0, 0, 0⟩
theorem fe_ok (ns : List Int) : cmdErr ns feS.cmd = none := rfl
theorem fl_ok {ns : List Int} (h : 1 ≤ ns.length) : cmdErr ns flS.cmd = none := by
  show lineErr ns 0 = none
  exact if_pos ⟨by decide, by omega⟩
theorem cut_init {xs : List V} : cutV xs none (some (-1)) = xs.take (xs.length - 1) := by
  unfold cutV
  rw [HT.sIx_none]
  have e : HT.sIx xs.length xs.length (some (-1)) = xs.length - 1 := by
    show (if (-1 : Int) < 0 then ((-1 : Int) + (xs.length : Int)).toNat else min (-1 : Int).toNat xs.length) = _
    rw [if_pos (by decide)]
    omega
  rw [e, List.drop_zero, Nat.sub_zero]
theorem last_at {ns : List Int} (h : 1 ≤ ns.length) : ∃ l, l ∈ ns ∧ atI (ns.map V.int) (-1) = some (.int l) := by
  have ne : ns ≠ [] := fun z => by rw [z] at h; simp at h
  refine ⟨ns.getLast ne, List.getLast_mem ne, ?_⟩
  have e : ns.map V.int = ns.dropLast.map V.int ++ [V.int (ns.getLast ne)] := by
    have := congrArg (List.map V.int) (List.dropLast_concat_getLast ne)
    rw [List.map_append] at this
    exact this.symm
  rw [e]
  exact atI_last _ _
theorem sizes1 {ns : List Int} (ok : SizesOk ns) {l : Int} (hl : l ∈ ns) : SizesOk (ns.take (ns.length - 1) ++ [l % 4 + 1]) := by
  have h1 := ok.1
  refine ⟨by rw [List.length_append, List.length_take, List.length_singleton]; omega, fun n hn => ?_⟩
  rcases List.mem_append.mp hn with h | h
  · exact ok.2 n (List.mem_of_mem_take h)
  · rw [List.mem_singleton.mp h]
    have := ok.2 l hl
    omega
theorem sizes2 {ns : List Int} (ok : SizesOk ns) : SizesOk ((ns ++ [1, 2]).take 6) := by
  have h1 := ok.1
  refine ⟨by rw [List.length_take, List.length_append]; simp; omega, fun n hn => ?_⟩
  rcases List.mem_append.mp (List.mem_of_mem_take hn) with h | h
  · exact ok.2 n h
  · simp only [List.mem_cons, List.not_mem_nil, or_false] at h
    omega
theorem eqv_lst (ns ms : List Int) : PyData.eqv (.list (ns.map PyData.int)) (.list (ms.map PyData.int)) = decide (ns = ms) := by
  rw [PyData.eqv]
  exact eqvAll_ints ns ms
theorem shaped_lst (ns : List Int) : SeqAt.shaped (.list (ns.map PyData.int)) = true := by
  refine shaped_of (lay_ints ns) ?_
  simp [PyData.depth, depth_ints]
/-- what stands while sums are made -/
structure R04 (d : Ad) (H : Hp) (sz one : Addr) (ns : List Int) (l : Nat) : Prop where
  sz : H sz = some (.lst (ns.map V.int))
  one : ProgAt d H one ns (rc l feS)
theorem R04.ext {d : Ad} {H H' : Hp} {sz one : Addr} {ns : List Int} {l : Nat} (r : R04 d H sz one ns l) (e : ExtN H H') : R04 d H' sz one ns l := ⟨e _ _ r.sz (fun ps z => by cases z), r.one.ke (Ke.ext e)⟩
theorem R04.same {d : Ad} {H H' : Hp} {sz one : Addr} {ns : List Int} {l : Nat} (r : R04 d H sz one ns l) (e : Same H H') : R04 d H' sz one ns l := r.ext (ExtN.of e)
/-- ('ok', n) and an error's word -/
def okV (n : Int) : List V := [.str "ok", .int n]
def okD (n : Int) : PyData := .tuple [.str "ok", .int n]
def omV : List V := [.str "refused othermemory"]
def omD : PyData := .tuple [.str "refused othermemory"]
theorem dp_ok {K : PySem.W.Frag} {H : Hp} {q : Addr} {n : Int} (h : H q = some (.tup (okV n))) : Dp K H (.ref q) (okD n) := .tup (SqT.of h) (.cons (.str _) (.cons (.int _) .nil))
theorem dp_om {K : PySem.W.Frag} {H : Hp} {q : Addr} (h : H q = some (.tup omV)) : Dp K H (.ref q) omD := .tup (SqT.of h) (.cons (.str _) .nil)
theorem okn_shaped (n : Int) : SeqAt.shaped (okD n) = true := by
  refine shaped_of ?_ (by simp [okD, PyData.depth, PyData.depthAll])
  have z : PyData.canLay0 (okD n) = (PyData.canLay0 (.str "ok") && true) := rfl
  rw [z]
  decide +kernel
theorem om_shaped : SeqAt.shaped omD = true := by
  refine shaped_of ?_ (by simp [omD, PyData.depth, PyData.depthAll])
  have z : PyData.canLay0 omD = (PyData.canLay0 (.str "refused othermemory") && true) := rfl
  rw [z]
  decide +kernel
/-- what is due of a sum -/
def dueV (ns ms : List Int) (n : Nat) : List V := if ns = ms then (if 200 < n then tagOf (.count "commands" (n : Int)) else okV (n : Int)) else omV
def dueD (ns ms : List Int) (n : Nat) : PyData := if ns = ms then (if 200 < n then .tuple (tagD (.count "commands" (n : Int))) else okD (n : Int)) else omD
theorem dp_due {K : PySem.W.Frag} {H : Hp} {q : Addr} {ns ms : List Int} {n : Nat} (h : H q = some (.tup (dueV ns ms n))) : Dp K H (.ref q) (dueD ns ms n) := by
  unfold dueV at h
  unfold dueD
  by_cases e : ns = ms
  · rw [if_pos e] at h
    rw [if_pos e]
    by_cases z : 200 < n
    · rw [if_pos z] at h
      rw [if_pos z]
      exact dp_tag h
    · rw [if_neg z] at h
      rw [if_neg z]
      exact dp_ok h
  · rw [if_neg e] at h
    rw [if_neg e]
    exact dp_om h
theorem duen_shaped {ns ms : List Int} {n : Nat} : SeqAt.shaped (dueD ns ms n) = true := by
  unfold dueD
  by_cases e : ns = ms
  · rw [if_pos e]
    by_cases z : 200 < n
    · rw [if_pos z]
      exact cmds_shaped _
    · rw [if_neg z]
      exact okn_shaped _
  · rw [if_neg e]
    exact om_shaped
end Q

namespace Q
open PySem PySem.Spec PyProof.Rows L2 LamX
abbrev topS (i : Nat) : Stmt := PySem.Challenge.pw_lateststore_k04_programs_refused.main.body.getD i (.Pass ⟨0, 0, 0, 0⟩)
abbrev sSource : Stmt := topS 21
theorem scSource : FnScope ["_law_cell"] ["_law_cell"] (defScope sSource) := ⟨rfl, rfl, rfl, by decide +kernel, rfl, by decide +kernel, by decide +kernel⟩
section
variable {P : Program} {w : World} {K : PySem.W.Frag} {mg : Str → Option Value} {base : Heap}
structure TSource (mg : Str → Option Value) : Prop where
  b_abs : mg "abs" = none
theorem ok_source {f : Addr} {fd : FuncData} (F : Fun K "_law_source" "_law_source" sSource f fd) (T : TSource mg) : FnOk P w K mg base CX0 1 f fd ["_law_cell"] spSource := by
  refine F.ok scSource (fun vs H Q E h => ?_) (fun cdv A outer s H vs Q E hr h => ?_)
  · obtain ⟨n, rfl, _⟩ := h
    rfl
  · obtain ⟨n, rfl, k⟩ := h
    refine ⟨_, (pss_one (ps_ret (pe_lst (pa_cons (pe_callB call_abs (by rfl) T.b_abs (by decide +kernel) (pa_cons (pv 0) pa_nil)) (pa_cons (pe_op op_mod (pv 0) pe_int) (pa_cons pe_int pa_nil)))))), ?_⟩
    refine ⟨_, rfl, _, rfl, _, rfl, _, _, rfl, rfl, (by show (0 : Int) < 2147483629; decide), (by show 3 ≤ sizeLine; decide), fun p hp => ?_⟩
    exact k p _ _ _ hp
end
abbrev sDraw : Stmt := topS 22
theorem scDraw : FnScope ["_law_source_here", "_law_many", "_law_found", "_law_number_here"] ["_law_source_here", "_law_many"] (defScope sDraw) := ⟨rfl, rfl, rfl, by decide +kernel, rfl, by decide +kernel, by decide +kernel⟩
section
variable {P : Program} {w : World} {K : PySem.W.Frag} {mg : Str → Option Value} {base : Heap}
theorem ok_draw {f : Addr} {fd : FuncData} (F : Fun K "_law_draw" "_law_draw" sDraw f fd) : FnOk P w K mg base CX0 1 f fd ["_law_source_here", "_law_many"] spDraw := by
  refine F.ok scDraw (fun vs H Q E h => ?_) (fun cdv A outer s H vs Q E hr h => ?_)
  · obtain ⟨S, m, rfl, _⟩ := h
    rfl
  · obtain ⟨S, m, rfl, ⟨a, b, c, hS⟩, m0, m1, k⟩ := h
    refine ⟨_, (pss_cons (ps_if (pt_cmpR op_ge (pe_ix ix_list (pv 0) pe_int (fun _ _ => rfl)) (pe_op op_pow pe_int pe_int) (nomark _)) (pss_cons (ps_set (i := 2) scDraw.nd rfl (Or.inl rfl) (pe_op op_mod (pe_ix ix_list (pv 0) pe_int (fun _ _ => rfl)) (pv 1)))
    (pss_cons (ps_asg (pe_op op_fdiv (pe_ix ix_list (pv 0) pe_int (fun _ _ => rfl)) (pv 1)) (pg_sub (pv 0) pe_int set_list))
    (pss_one (ps_ret (pv 2))))) pss_nil)
    (pss_cons (ps_asg (pe_op op_add (pe_ix ix_list (pv 0) pe_int (fun _ _ => rfl)) pe_int) (pg_sub (pv 0) pe_int set_list))
    (pss_cons (ps_set (i := 3) scDraw.nd rfl (Or.inl rfl) (pe_op op_mod (pe_op op_mul (pe_op op_add (pe_op op_add (pe_ix ix_list (pv 0) pe_int (fun _ _ => rfl)) (pe_op op_mul pe_int (pe_ix ix_list (pv 0) pe_int (fun _ _ => rfl)))) pe_int) pe_int) pe_int))
    (pss_cons (ps_set (i := 3) scDraw.nd rfl (Or.inl rfl) (pe_op op_mod (pe_op op_mul (pv 3) (pe_op op_add (pe_op op_fdiv (pv 3) pe_int) pe_int)) pe_int))
    (pss_one (ps_ret (pe_op op_mod (pe_op op_mod (pe_op op_add (pe_op op_fdiv (pv 3) pe_int) (pe_op op_mul (pe_op op_mod (pv 3) pe_int) pe_int)) pe_int) (pv 1)))))))), ?_⟩
    refine ⟨_, rfl, S, _, _, _, rfl, rfl, SqL.of hS, at0, _, _, rfl, rfl, ⟨by decide, by decide, by decide⟩, _, _, rfl, rfl, _, rfl, ?_⟩
    refine ite2 (fun _ => ?_) (fun _ => ?_)
    · refine ⟨_, rfl, S, _, _, _, rfl, rfl, SqL.of hS, at0, _, rfl, _, _, rfl, rfl, m0, ?_⟩
      refine ⟨_, rfl, S, _, _, _, rfl, rfl, SqL.of hS, at0, _, rfl, _, _, rfl, rfl, ⟨m0, m1⟩, _, rfl, S, _, _, 0, rfl, rfl, hS, rfl, ?_⟩
      exact ⟨_, rfl, k _ _ (Int.emod_nonneg _ (by omega)) (Int.emod_lt_of_pos _ m0) ⟨_, _, _, upd_same⟩ Ks.upd⟩
    · refine ⟨_, rfl, S, _, _, _, rfl, rfl, SqL.of hS, at2, _, _, rfl, rfl, _, rfl, S, _, _, 2, rfl, rfl, hS, rfl, ?_⟩
      have hS2 : upd H S (src a b (c + 1)) S = some (src a b (c + 1)) := upd_same
      refine ⟨_, rfl, S, _, _, _, rfl, rfl, SqL.of hS2, at1, _, rfl, S, _, _, _, rfl, rfl, SqL.of hS2, at2, _, _, rfl, rfl, .inl ⟨by decide, by decide⟩, _, _, rfl, rfl, _, _, rfl, rfl, _, _, rfl, rfl, .inr ⟨by decide, by decide⟩, _, _, rfl, rfl, (by show (0 : Int) < 2147483647; decide), ?_⟩
      generalize hx : ((b + 7919 * (c + 1) + 1) * 48271) % 2147483647 = x
      have x0 : 0 ≤ x := by rw [← hx]; exact Int.emod_nonneg _ (by decide)
      have x1 : x < 2147483647 := by rw [← hx]; exact Int.emod_lt_of_pos _ (by decide)
      refine ⟨_, rfl, _, rfl, _, _, rfl, rfl, ⟨by decide, by decide⟩, _, _, rfl, rfl, _, _, rfl, rfl, .inl ⟨by omega, by omega⟩, _, _, rfl, rfl, (by show (0 : Int) < 2147483587; decide), ?_⟩
      refine ⟨_, rfl, _, _, rfl, rfl, ⟨by decide, by decide⟩, _, rfl, _, _, rfl, rfl, (by show (0 : Int) < 7919; decide), _, _, rfl, rfl, .inr ⟨by decide, by decide⟩, _, _, rfl, rfl, _, _, rfl, rfl, (by show (0 : Int) < 2147483399; decide), _, rfl, _, _, rfl, rfl, m0, ?_⟩
      exact k _ _ (Int.emod_nonneg _ (by omega)) (Int.emod_lt_of_pos _ m0) ⟨_, _, _, upd_same⟩ Ks.upd
end
abbrev sPick : Stmt := topS 23
theorem scPick : FnScope ["_law_source_here", "_law_items"] ["_law_source_here", "_law_items"] (defScope sPick) := ⟨rfl, rfl, rfl, by decide +kernel, rfl, by decide +kernel, by decide +kernel⟩
section
variable {P : Program} {w : World} {K : PySem.W.Frag} {mg : Str → Option Value} {base : Heap}
structure TPick (mg : Str → Option Value) : Prop where
  b_len : mg "len" = none
theorem ok_pick {f : Addr} {fd : FuncData} (F : Fun K "_law_pick" "_law_pick" sPick f fd) (T : TPick mg) (FD : Cal P w K mg base CX0 "_law_draw" 1 ["_law_source_here", "_law_many"] spDraw) : FnOk P w K mg base CX0 2 f fd ["_law_source_here", "_law_items"] (spPick K) := by
  refine F.ok scPick (fun vs H Q E h => ?_) (fun cdv A outer s H vs Q E hr h => ?_)
  · obtain ⟨S, p, xs, rfl, _⟩ := h
    rfl
  · obtain ⟨S, p, xs, rfl, hS, hp, ne, l0, l1, k⟩ := h
    refine ⟨_, (pss_one (ps_ret (pe_ix ix_list (pv 1) (pe_cal FD (hr.mono (by decide)) (by rfl) pass0 (pa_cons (pv 0) (pa_cons (pe_callB call_len_seq (by rfl) T.b_len (by decide +kernel) (pa_cons (pv 1) pa_nil)) pa_nil))) (fun _ _ => rfl)))), ?_⟩
    refine ⟨_, rfl, _, rfl, _, rfl, p, _, rfl, .inl (SqL.of hp), S, _, rfl, hS, by omega, by omega, fun r H' r0 r1 hS' ks => ?_⟩
    have hp2 : H' p = some (.lst xs) := ks _ _ hp ne
    have hlt : r.toNat < xs.length := by omega
    have er : ((r.toNat : Nat) : Int) = r := Int.toNat_of_nonneg r0
    have hat : atI xs ((r.toNat : Nat) : Int) = some xs[r.toNat] := atI_nat (by simp [hlt])
    exact ⟨p, xs, r, xs[r.toNat], rfl, rfl, SqL.of hp2, er ▸ hat, k _ _ (List.getElem_mem hlt) hS' ks⟩
end
abbrev sBadI : Stmt := inClass (topS 2) 0
theorem scBadI : FnScope ["self", "what", "count"] ["self", "what", "count"] (defScope sBadI) := ⟨rfl, rfl, rfl, by decide +kernel, rfl, by decide +kernel, by decide +kernel⟩
section
variable {P : Program} {w : World} {K : PySem.W.Frag} {mg : Str → Option Value} {base : Heap}
theorem ok_badI {f CB : Addr} {fd : FuncData} (F : Fun K "__init__" "BadCount.__init__" sBadI f fd) (T : OexC K CB) (n1 : PySem.W.findIn K (.ref CB) "what" = some none) (n2 : PySem.W.findIn K (.ref CB) "count" = some none) :
    FnOk P w K mg base CX0 1 f fd ["self", "what", "count"] (spInit2 CB "what" "count") := by
  refine F.ok scBadI (fun vs H Q E h => ?_) (fun cdv A outer s H vs Q E hr h => ?_)
  · obtain ⟨a, v1, v2, rfl, _⟩ := h
    rfl
  · obtain ⟨a, v1, v2, rfl, ha, k⟩ := h
    refine ⟨_, (pss_cons (ps_ost (pv 0) (pv 1))
    (pss_one (ps_ost (pv 0) (pv 2)))), ?_⟩
    refine ⟨_, rfl, _, rfl, a, CB, rfl, T, n1, .inl ⟨ha, fun d hd ne => ?_⟩⟩
    refine ⟨_, rfl, _, rfl, a, CB, rfl, T, n2, .inr ⟨d, [("what", v1)], upd_same, by rw [upd_ne ne, upd_same], by show 1 ≤ 900; decide, ?_⟩⟩
    exact k d hd ne
end
abbrev sChk : Stmt := topS 15
theorem scChk : FnScope ["sizes", "size"] ["sizes"] (defScope sChk) := ⟨rfl, rfl, rfl, by decide +kernel, rfl, by decide +kernel, by decide +kernel⟩
structure TChk (mg : Str → Option Value) : Prop where
  b_len : mg "len" = none
  g_MOST_LINES : ∃ t, mg "MOST_LINES" = some (.int 6 t)
  g_MOST_WORDS : ∃ t, mg "MOST_WORDS" = some (.int 4 t)
section
variable {P : Program} {w : World} {K : PySem.W.Frag} {mg : Str → Option Value} {base : Heap}
theorem ok_chk {f CB : Addr} {fd : FuncData} (F : Fun K "check_sizes" "check_sizes" sChk f fd) (T : TChk mg) (EB : Err P w K mg base "BadCount" CB 1 ["self", "what", "count"] (spInit2 CB "what" "count")) :
    FnOk P w K mg base (L2.CX P w) 3 f fd ["sizes"] (spChkSizes K CB) := by
  obtain ⟨tl, hl⟩ := T.g_MOST_LINES
  obtain ⟨tw, hw⟩ := T.g_MOST_WORDS
  refine F.okX scChk (fun vs H Q E h => ?_) (fun cdv A outer s H vs Q E hr h => ?_)
  · obtain ⟨b, a, ns, rfl, _⟩ := h
    rfl
  · obtain ⟨b, a, ns, rfl, hS, kE, kQ⟩ := h
    refine ⟨_, (pss_cons (ps_if (pt_not (pt_chain op_le op_le pe_int (pe_callB call_len_seq (by rfl) T.b_len (by decide +kernel) (pa_cons (pv 0) pa_nil)) (pe_glob (v := V.int 6) rfl hl ⟨_, rfl⟩))) (pss_one (ps_raise rfl (takes_of rfl rfl rfl rfl) (pmk_err EB (hr.mono (by decide)) (by rfl) (pa_cons pe_str (pa_cons (pe_callB call_len_seq (by rfl) T.b_len (by decide +kernel) (pa_cons (pv 0) pa_nil)) pa_nil))))) pss_nil)
    (pss_one (ps_for (passes_of rfl) rfl (pi_sq b (pv 0)) (pg_name (i := 1) scChk.nd rfl (Or.inl rfl)) (pss_one (ps_if (pt_not (pt_chain op_le op_le pe_int (pv 1) (pe_glob (v := V.int 4) rfl hw ⟨_, rfl⟩))) (pss_one (ps_raise rfl (takes_of rfl rfl rfl rfl) (pmk_err EB (hr.mono (by decide)) (by rfl) (pa_cons pe_str (pa_cons (pv 1) pa_nil))))) pss_nil))))), ?_⟩
    have vl : ((ns.map V.int).length : Int) = (ns.length : Int) := by rw [List.length_map]
    refine st_seq (s_if (ans_not (a_lele val_c (v_len (val_var rfl) hS) val_c)) (fun hb => ?_) (fun hb => ?_))
    · rw [vl] at hb
      have hn : ¬ (1 ≤ (ns.length : Int) ∧ (ns.length : Int) ≤ 6) := nd_t hb
      refine ⟨_, rfl, a, _, rfl, hS.or, by show 2 ≤ 1000; decide, mk2 fun d hd => ?_⟩
      rw [vl]
      exact kE _ _ (if_neg hn) d hd
    · rw [vl] at hb
      have hn : 1 ≤ (ns.length : Int) ∧ (ns.length : Int) ≤ 6 := nd_f hb
      have eb : badSizes ns = (ns.find? fun n => !decide (1 ≤ n ∧ n ≤ 4)).map fun n => (("words" : Str), n) := if_pos hn
      refine sq_for (xs := ns.map V.int) (fun i σ H' => H' = H ∧ (∃ v : Option V, σ = [some (.ref a), v]) ∧ ∀ j m, j < i → ns[j]? = some m → (!decide (1 ≤ m ∧ m ≤ 4)) = false)
        (fun R q => ⟨_, rfl, q⟩) hS ⟨rfl, ⟨none, rfl⟩, fun j m hj => absurd hj (Nat.not_lt_zero j)⟩ (fun i σ H' _ ⟨e, _⟩ => by rw [e]; exact hS) ?_ ?_
      · rintro i x σ H' hi ⟨rfl, ⟨v, rfl⟩, hg⟩
        obtain ⟨n, hn2, rfl⟩ := map_at hi
        refine g_name ?_
        refine s_if (ans_not (a_lele val_c (val_var (v := .int n) (i := 1) rfl) val_c)) (fun hb2 => ?_) (fun hb2 => ?_)
        · refine ⟨_, rfl, by show 2 ≤ 1000; decide, mk2 fun d hd => kE _ _ ?_ d hd⟩
          rw [eb, find_at hn2 hb2 hg]
          rfl
        · refine ⟨rfl, ⟨_, rfl⟩, fun j m hj hm => ?_⟩
          rcases Nat.lt_succ_iff_lt_or_eq.mp hj with h1 | h1
          · exact hg j m h1 hm
          · rw [h1, hn2] at hm
            cases hm
            exact hb2
      · rintro σ H' ⟨rfl, _, hg⟩
        refine kQ ?_
        rw [eb, find_none_take (fun n hn3 => ?_)]
        · rfl
        · obtain ⟨j, hj, e⟩ := List.getElem_of_mem hn3
          exact hg j n (by rw [List.length_map]; exact hj) (by rw [← e]; simp [hj])
end
abbrev sMemI : Stmt := inClass (topS 10) 0
theorem scMemI : FnScope ["self", "sizes"] ["self", "sizes"] (defScope sMemI) := ⟨rfl, rfl, rfl, by decide +kernel, rfl, by decide +kernel, by decide +kernel⟩
structure TMem (K : PySem.W.Frag) (mg : Str → Option Value) (CM : Addr) : Prop where
  b_tuple : mg "tuple" = none
  cl : Cls K CM
  nS : NoAttr K CM "sizes"
section
variable {P : Program} {w : World} {K : PySem.W.Frag} {mg : Str → Option Value} {base : Heap}
theorem ok_memI {f CB CM : Addr} {fd : FuncData} (F : Fun K "__init__" "Memory.__init__" sMemI f fd) (T : TMem K mg CM) (FC : Cal P w K mg base (L2.CX P w) "check_sizes" 3 ["sizes"] (spChkSizes K CB)) :
    FnOk P w K mg base (L2.CX P w) 4 f fd ["self", "sizes"] (spMemInit K CB CM) := by
  refine F.okX scMemI (fun vs H Q E h => ?_) (fun cdv A outer s H vs Q E hr h => ?_)
  · obtain ⟨b, m, dx, a, ns, rfl, _⟩ := h
    rfl
  · obtain ⟨b, m, dx, a, ns, rfl, hm, hS, nam, kE, kQ⟩ := h
    refine ⟨_, (pss_cons (ps_expr (pe_cal FC (hr.mono (by decide)) (by rfl) (passes_call (takes_of rfl rfl rfl rfl) (fun _ _ _ _ h => h)) (pa_cons (pv 1) pa_nil)))
    (pss_one (ps_fld (pv 0) (pe_callTy call_tuple_of (by rfl) T.b_tuple (by decide +kernel) (pa_cons (pv 1) pa_nil)) rfl))), ?_⟩
    refine ⟨_, rfl, b, a, ns, rfl, hS, kE, fun hb => ?_⟩
    obtain ⟨k1, k2⟩ := kQ hb
    cases b with
    | true =>
      refine ⟨_, rfl, a, _, rfl, .inl ⟨hS, fun t ht => ?_⟩⟩
      have nmt : m ≠ t := ne_of_none hm ht
      exact ⟨_, rfl, m, CM, dx, [], rfl, by rw [upd_ne nmt]; exact hm, T.cl, T.nS, by show 0 < 1000; decide, k1 rfl t ht⟩
    | false =>
      refine ⟨_, rfl, a, _, rfl, .inr ⟨hS, ?_⟩⟩
      exact ⟨_, rfl, m, CM, dx, [], rfl, hm, T.cl, T.nS, by show 0 < 1000; decide, k2 rfl⟩
end
abbrev snlI : Stmt := inClass (topS 3) 0
theorem scnlI : FnScope ["self", "line"] ["self", "line"] (defScope snlI) := ⟨rfl, rfl, rfl, by decide +kernel, rfl, by decide +kernel, by decide +kernel⟩
section
variable {P : Program} {w : World} {K : PySem.W.Frag} {mg : Str → Option Value} {base : Heap}
theorem ok_nlI {f CB : Addr} {fd : FuncData} (F : Fun K "__init__" "NoLine.__init__" snlI f fd) (T : OexC K CB) (n1 : PySem.W.findIn K (.ref CB) "line" = some none) :
    FnOk P w K mg base CX0 1 f fd ["self", "line"] (spInit1 CB "line") := by
  refine F.ok scnlI (fun vs H Q E h => ?_) (fun cdv A outer s H vs Q E hr h => ?_)
  · obtain ⟨a, v1, rfl, _⟩ := h
    rfl
  · obtain ⟨a, v1, rfl, ha, k⟩ := h
    refine ⟨_, (pss_one (ps_ost (pv 0) (pv 1))), ?_⟩
    exact ⟨_, rfl, _, rfl, a, CB, rfl, T, n1, .inl ⟨ha, fun d hd ne => k d hd ne⟩⟩
end
abbrev snwI : Stmt := inClass (topS 4) 0
theorem scnwI : FnScope ["self", "word"] ["self", "word"] (defScope snwI) := ⟨rfl, rfl, rfl, by decide +kernel, rfl, by decide +kernel, by decide +kernel⟩
section
variable {P : Program} {w : World} {K : PySem.W.Frag} {mg : Str → Option Value} {base : Heap}
theorem ok_nwI {f CB : Addr} {fd : FuncData} (F : Fun K "__init__" "NoWord.__init__" snwI f fd) (T : OexC K CB) (n1 : PySem.W.findIn K (.ref CB) "word" = some none) :
    FnOk P w K mg base CX0 1 f fd ["self", "word"] (spInit1 CB "word") := by
  refine F.ok scnwI (fun vs H Q E h => ?_) (fun cdv A outer s H vs Q E hr h => ?_)
  · obtain ⟨a, v1, rfl, _⟩ := h
    rfl
  · obtain ⟨a, v1, rfl, ha, k⟩ := h
    refine ⟨_, (pss_one (ps_ost (pv 0) (pv 1))), ?_⟩
    exact ⟨_, rfl, _, rfl, a, CB, rfl, T, n1, .inl ⟨ha, fun d hd ne => k d hd ne⟩⟩
end
end Q

namespace Q
open PySem PySem.Spec PyProof.Rows L2 LamX
abbrev sStoreI : Stmt := inClass (topS 11) 0
theorem scStoreI : FnScope ["self", "line", "word", "number"] ["self", "line", "word", "number"] (defScope sStoreI) := ⟨rfl, rfl, rfl, by decide +kernel, rfl, by decide +kernel, by decide +kernel⟩
theorem pf_lw : ¬ (("line" : Str) = "word") := by decide +kernel
theorem pf_ln : ¬ (("line" : Str) = "number") := by decide +kernel
theorem pf_wn : ¬ (("word" : Str) = "number") := by decide +kernel
theorem pf_mc : ¬ (("memory" : Str) = "commands") := by decide +kernel
theorem putF_at {f g : Str} {v x : V} {r : List (Str × V)} (h : ¬ g = f) : putF f v ((g, x) :: r) = (g, x) :: putF f v r := if_neg h
section
variable {P : Program} {w : World} {K : PySem.W.Frag} {mg : Str → Option Value} {base : Heap}
theorem ok_storeI {f : Addr} {d : Ad} {fd : FuncData} (F : Fun K "__init__" "Store.__init__" sStoreI f fd) (c : Cls K d.st) (n1 : NoAttr K d.st "line") (n2 : NoAttr K d.st "word") (n3 : NoAttr K d.st "number") :
    FnOk P w K mg base CX0 1 f fd ["self", "line", "word", "number"] (spStoreI d) := by
  refine F.ok scStoreI (fun vs H Q E h => ?_) (fun cdv A outer s H vs Q E hr h => ?_)
  · obtain ⟨x, dx, v1, v2, v3, rfl, _⟩ := h
    rfl
  · obtain ⟨x, dx, v1, v2, v3, rfl, hx, k⟩ := h
    refine ⟨_, (pss_cons (ps_fld (pv 0) (pv 1) rfl)
    (pss_cons (ps_fld (pv 0) (pv 2) rfl)
    (pss_one (ps_fld (pv 0) (pv 3) rfl)))), ?_⟩
    refine ⟨_, rfl, _, rfl, x, d.st, dx, [], rfl, hx, c, n1, by show 0 < 1000; decide, ?_⟩
    refine ⟨_, rfl, _, rfl, x, d.st, dx, [("line", v1)], rfl, upd_same, c, n2, by show 1 < 1000; decide, ?_⟩
    have e1 : putF "word" v2 [(("line" : Str), v1)] = ([("line", v1), ("word", v2)] : List (Str × V)) := putF_at pf_lw
    rw [e1]
    refine ⟨_, rfl, _, rfl, x, d.st, dx, [("line", v1), ("word", v2)], rfl, upd_same, c, n3, by show 2 < 1000; decide, ?_⟩
    have e2 : putF "number" v3 [(("line" : Str), v1), ("word", v2)] = ([("line", v1), ("word", v2), ("number", v3)] : List (Str × V)) := by rw [putF_at pf_ln, putF_at pf_wn] <;> rfl
    rw [e2, upd_upd, upd_upd]
    exact k
end
abbrev sFlushI : Stmt := inClass (topS 12) 0
theorem scFlushI : FnScope ["self", "line"] ["self", "line"] (defScope sFlushI) := ⟨rfl, rfl, rfl, by decide +kernel, rfl, by decide +kernel, by decide +kernel⟩
section
variable {P : Program} {w : World} {K : PySem.W.Frag} {mg : Str → Option Value} {base : Heap}
theorem ok_flushI {f : Addr} {d : Ad} {fd : FuncData} (F : Fun K "__init__" "Flush.__init__" sFlushI f fd) (c : Cls K d.fl) (n1 : NoAttr K d.fl "line") : FnOk P w K mg base CX0 1 f fd ["self", "line"] (spFlushI d) := by
  refine F.ok scFlushI (fun vs H Q E h => ?_) (fun cdv A outer s H vs Q E hr h => ?_)
  · obtain ⟨x, dx, v1, rfl, _⟩ := h
    rfl
  · obtain ⟨x, dx, v1, rfl, hx, k⟩ := h
    refine ⟨_, (pss_one (ps_fld (pv 0) (pv 1) rfl)), ?_⟩
    exact ⟨_, rfl, _, rfl, x, d.fl, dx, [], rfl, hx, c, n1, by show 0 < 1000; decide, k⟩
end
abbrev sLine : Stmt := topS 16
theorem scLine : FnScope ["memory", "line"] ["memory", "line"] (defScope sLine) := ⟨rfl, rfl, rfl, by decide +kernel, rfl, by decide +kernel, by decide +kernel⟩
theorem checks_none {d : Ad} {R : VK} {E : XK} {H : Hp} (h : R .non H) : Checks d none R E H := h
/-- what the module's text is, for programs -/
structure TProg (K : PySem.W.Frag) (mg : Str → Option Value) (d : Ad) : Prop where
  b_len : mg "len" = none
  b_isi : mg "isinstance" = none
  b_tuple : mg "tuple" = none
  b_list : mg "list" = none
  g_most : ∃ t, mg "MOST_COMMANDS" = some (.int 200 t)
  gSt : mg "Store" = some (.ref d.st)
  gFl : mg "Flush" = some (.ref d.fl)
  cM : Cls K d.me
  cP : Cls K d.pr
  nSz : NoAttr K d.me "sizes"
  nMe : NoAttr K d.pr "memory"
  nCo : NoAttr K d.pr "commands"
  oc : ∀ c, OwnC K (d.cls c)
  kS : ∀ c, PySem.W.kitOne K (.ref (d.cls c)) (.ref d.st) = some (match c with | .store _ _ _ => true | _ => false)
  kF : ∀ c, PySem.W.kitOne K (.ref (d.cls c)) (.ref d.fl) = some (match c with | .flush _ => true | _ => false)
  nL : NoAttr K d.st "line"
  nW : NoAttr K d.st "word"
  nN : NoAttr K d.st "number"
  nFl : NoAttr K d.fl "line"
  ne : d.pr ≠ d.fe
section
variable {P : Program} {w : World} {K : PySem.W.Frag} {mg : Str → Option Value} {base : Heap}
theorem ok_line {f : Addr} {d : Ad} {fd : FuncData} (F : Fun K "check_line" "check_line" sLine f fd) (T : TProg K mg d) (EL : Err P w K mg base "NoLine" d.nl 1 ["self", "line"] (spInit1 d.nl "line")) :
    FnOk P w K mg base (L2.CX P w) 3 f fd ["memory", "line"] (spLine d) := by
  refine F.okX scLine (fun vs H Q E h => ?_) (fun cdv A outer s H vs Q E hr h => ?_)
  · obtain ⟨m, ns, l, rfl, _⟩ := h
    rfl
  · obtain ⟨m, ns, l, rfl, ⟨dx, t, hm, ht⟩, k⟩ := h
    refine ⟨_, (pss_one (ps_if (pt_not (pt_chain op_le op_lt pe_int (pv 1) (pe_callB call_len_seq (by rfl) T.b_len (by decide +kernel) (pa_cons (pe_fld (pv 0) rfl) pa_nil)))) (pss_one (ps_raise rfl (takes_of rfl rfl rfl rfl) (pmk_err EL (hr.mono (by decide)) (by rfl) (pa_cons (pv 1) pa_nil)))) pss_nil)), ?_⟩
    have vl : ((ns.map V.int).length : Int) = (ns.length : Int) := by rw [List.length_map]
    have vf : Val (tFld K (tVar 0) "sizes") [some (.ref m), some (.int l)] H (.ref t) := val_fld (val_var rfl) hm T.cM T.nSz rfl
    refine s_if (ans_not (a_lelt val_c (val_var (v := .int l) rfl) (v_len (b := false) vf (Sq.t ht)))) (fun hb => ?_) (fun hb => ?_)
    · rw [vl] at hb
      have hn := nd_t hb
      have e : lineErr ns l = some (.line l) := if_neg hn
      rw [e] at k
      exact ⟨_, rfl, by show 1 ≤ 1000; decide, mk1 k⟩
    · rw [vl] at hb
      have hn := nd_f hb
      have e : lineErr ns l = none := if_pos hn
      rw [e] at k
      exact k
end
abbrev sWord : Stmt := topS 17
theorem scWord : FnScope ["memory", "line", "word"] ["memory", "line", "word"] (defScope sWord) := ⟨rfl, rfl, rfl, by decide +kernel, rfl, by decide +kernel, by decide +kernel⟩
section
variable {P : Program} {w : World} {K : PySem.W.Frag} {mg : Str → Option Value} {base : Heap}
theorem ok_word {f : Addr} {d : Ad} {fd : FuncData} (F : Fun K "check_word" "check_word" sWord f fd) (T : TProg K mg d) (FL : Cal P w K mg base (L2.CX P w) "check_line" 3 ["memory", "line"] (spLine d)) (EW : Err P w K mg base "NoWord" d.nw 1 ["self", "word"] (spInit1 d.nw "word")) :
    FnOk P w K mg base (L2.CX P w) 4 f fd ["memory", "line", "word"] (spWord d) := by
  refine F.okX scWord (fun vs H Q E h => ?_) (fun cdv A outer s H vs Q E hr h => ?_)
  · obtain ⟨m, ns, l, w, rfl, _⟩ := h
    rfl
  · obtain ⟨m, ns, l, wd, rfl, hM, k⟩ := h
    refine ⟨_, (pss_cons (ps_expr (pe_cal FL (hr.mono (by decide)) (by rfl) (passes_call (takes_of rfl rfl rfl rfl) (fun _ _ _ _ h => h)) (pa_cons (pv 0) (pa_cons (pv 1) pa_nil))))
    (pss_one (ps_if (pt_not (pt_chain op_le op_lt pe_int (pv 2) (pe_ix ix_tup (pe_fld (pv 0) rfl) (pv 1) (fun _ _ => rfl)))) (pss_one (ps_raise rfl (takes_of rfl rfl rfl rfl) (pmk_err EW (hr.mono (by decide)) (by rfl) (pa_cons (pv 2) pa_nil)))) pss_nil))), ?_⟩
    obtain ⟨dx, t, hm, ht⟩ := id hM
    refine ⟨_, rfl, _, rfl, m, ns, l, rfl, hM, ?_⟩
    by_cases hl : 0 ≤ l ∧ l < ns.length
    · have e : lineErr ns l = none := if_pos hl
      rw [e]
      have hat : (ns.map V.int)[l.toNat]? = some (.int (ns.getD l.toNat 0)) := by
        rw [List.getElem?_map, List.getD_eq_getElem?_getD]
        have hlt : l.toNat < ns.length := by omega
        simp [hlt]
      have vw : Val (tOp (rIxT K) (tFld K (tVar 0) "sizes") (tVar 1)) [some (.ref m), some (.int l), some (.int wd)] H (.int (ns.getD l.toNat 0)) := by
        intro R q
        refine val_fld (val_var rfl) hm T.cM T.nSz rfl _ ?_
        refine ⟨_, rfl, t, _, l, _, rfl, rfl, SqT.of ht, ?_, q⟩
        have e2 : ((l.toNat : Nat) : Int) = l := Int.toNat_of_nonneg hl.1
        have q2 := atI_nat hat
        rw [e2] at q2
        exact q2
      refine checks_none ?_
      dsimp only
      refine s_if (ans_not (a_lelt val_c (val_var (v := .int wd) (i := 2) rfl) vw)) (fun hb => ?_) (fun hb => ?_)
      · have e2 : wordErr ns l wd = some (.word wd) := by
          unfold wordErr
          rw [if_pos hl, if_neg (nd_t hb)]
        rw [e2] at k
        exact ⟨_, rfl, by show 1 ≤ 1000; decide, mk1 k⟩
      · have e2 : wordErr ns l wd = none := by
          unfold wordErr
          rw [if_pos hl, if_pos (nd_f hb)]
        rw [e2] at k
        exact k
    · have e : lineErr ns l = some (.line l) := if_neg hl
      have e2 : wordErr ns l wd = some (.line l) := if_neg hl
      rw [e]
      rw [e2] at k
      exact k
end
abbrev sCmd : Stmt := topS 18
theorem scCmd : FnScope ["memory", "command"] ["memory", "command"] (defScope sCmd) := ⟨rfl, rfl, rfl, by decide +kernel, rfl, by decide +kernel, by decide +kernel⟩
theorem a_val {te : TE} {σ : L2.St} {H : Hp} {b : Bool} (h : Val te σ H (.bl b)) : Ans (tB te) σ H b := ans_val h
section
variable {P : Program} {w : World} {K : PySem.W.Frag} {mg : Str → Option Value} {base : Heap}
theorem ok_cmd {f : Addr} {d : Ad} {fd : FuncData} (F : Fun K "check_command" "check_command" sCmd f fd) (T : TProg K mg d) (FL : Cal P w K mg base (L2.CX P w) "check_line" 3 ["memory", "line"] (spLine d))
    (FW : Cal P w K mg base (L2.CX P w) "check_word" 4 ["memory", "line", "word"] (spWord d)) : FnOk P w K mg base (L2.CX P w) 5 f fd ["memory", "command"] (spCmd d) := by
  refine F.okX scCmd (fun vs H Q E h => ?_) (fun cdv A outer s H vs Q E hr h => ?_)
  · obtain ⟨m, ns, v, c, rfl, _⟩ := h
    rfl
  · obtain ⟨m, ns, v, c, rfl, hM, ⟨a, dx, rfl, ha⟩, k⟩ := h
    refine ⟨_, (pss_one (ps_if (pt_val (pe_callB call_isi (by rfl) T.b_isi (by decide +kernel) (pa_cons (pv 1) (pa_cons (pe_glob (v := V.ref d.st) rfl T.gSt rfl) pa_nil)))) (pss_one (ps_expr (pe_cal FW (hr.mono (by decide)) (by rfl) (passes_call (takes_of rfl rfl rfl rfl) (fun _ _ _ _ h => h)) (pa_cons (pv 0) (pa_cons (pe_fld (pv 1) rfl) (pa_cons (pe_fld (pv 1) rfl) pa_nil)))))) (pss_one (ps_if (pt_val (pe_callB call_isi (by rfl) T.b_isi (by decide +kernel) (pa_cons (pv 1) (pa_cons (pe_glob (v := V.ref d.fl) rfl T.gFl rfl) pa_nil)))) (pss_one (ps_expr (pe_cal FL (hr.mono (by decide)) (by rfl) (passes_call (takes_of rfl rfl rfl rfl) (fun _ _ _ _ h => h)) (pa_cons (pv 0) (pa_cons (pe_fld (pv 1) rfl) pa_nil))))) pss_nil)))), ?_⟩
    show tIfS _ _ _ _ [some (.ref m), some (.ref a)] H
    refine s_if (σ := [some (.ref m), some (.ref a)]) (a_val (v_isi (σ := [some (.ref m), some (.ref a)]) (val_var (i := 1) rfl) val_c (T.oc c) ha (T.kS c))) (fun hb => ?_) (fun hb => ?_)
    · cases c with
      | store l wd n =>
        refine ⟨_, rfl, _, rfl, a, d.st, dx, _, .int l, rfl, ha, (T.oc (.store l wd n)).cl, T.nL, rfl, _, rfl, a, d.st, dx, _, .int wd, rfl, ha, (T.oc (.store l wd n)).cl, T.nW, rfl, m, ns, l, wd, rfl, hM, ?_⟩
        exact k
      | flush l => cases hb
      | fence => cases hb
    · refine s_if (σ := [some (.ref m), some (.ref a)]) (a_val (v_isi (σ := [some (.ref m), some (.ref a)]) (val_var (i := 1) rfl) val_c (T.oc c) ha (T.kF c))) (fun hb2 => ?_) (fun hb2 => ?_)
      · cases c with
        | store l wd n => cases hb2
        | flush l =>
          refine ⟨_, rfl, _, rfl, a, d.fl, dx, _, .int l, rfl, ha, (T.oc (.flush l)).cl, T.nFl, rfl, m, ns, l, rfl, hM, ?_⟩
          exact k
        | fence => cases hb2
      · cases c with
        | store l wd n => cases hb
        | flush l => cases hb2
        | fence => exact k
end
abbrev sCmds : Stmt := topS 19
theorem scCmds : FnScope ["memory", "commands", "command"] ["memory", "commands"] (defScope sCmds) := ⟨rfl, rfl, rfl, by decide +kernel, rfl, by decide +kernel, by decide +kernel⟩
theorem Checks.mono {d : Ad} {o : Option PErr} {R R' : VK} {E : XK} {H : Hp} (h : Checks d o R E H) (k : o = none → R .non H → R' .non H) : Checks d o R' E H := by
  cases o with
  | none => exact k rfl h
  | some e => exact h
section
variable {P : Program} {w : World} {K : PySem.W.Frag} {mg : Str → Option Value} {base : Heap}
theorem ok_cmds {f : Addr} {d : Ad} {fd : FuncData} (F : Fun K "check_commands" "check_commands" sCmds f fd) (T : TProg K mg d) (EB : Err P w K mg base "BadCount" d.bc 1 ["self", "what", "count"] (spInit2 d.bc "what" "count"))
    (FC : Cal P w K mg base (L2.CX P w) "check_command" 5 ["memory", "command"] (spCmd d)) : FnOk P w K mg base (L2.CX P w) 6 f fd ["memory", "commands"] (spCmds d K) := by
  obtain ⟨tm, hmost⟩ := T.g_most
  refine F.okX scCmds (fun vs H Q E h => ?_) (fun cdv A outer s H vs Q E hr h => ?_)
  · obtain ⟨b, m, ns, a, xs, cs, rfl, _⟩ := h
    rfl
  · obtain ⟨b, m, ns, a, xs, cs, rfl, hM, hS, hA, k⟩ := h
    refine ⟨_, (pss_cons (ps_if (pt_cmpR op_gt (pe_callB call_len_seq (by rfl) T.b_len (by decide +kernel) (pa_cons (pv 1) pa_nil)) (pe_glob (v := V.int 200) rfl hmost ⟨_, rfl⟩) (nomark _)) (pss_one (ps_raise rfl (takes_of rfl rfl rfl rfl) (pmk_err EB (hr.mono (by decide)) (by rfl) (pa_cons pe_str (pa_cons (pe_callB call_len_seq (by rfl) T.b_len (by decide +kernel) (pa_cons (pv 1) pa_nil)) pa_nil))))) pss_nil)
    (pss_one (ps_for (passes_of rfl) rfl (pi_sq b (pv 1)) (pg_name (i := 2) scCmds.nd rfl (Or.inl rfl)) (pss_one (ps_expr (pe_cal FC (hr.mono (by decide)) (by rfl) (passes_call (takes_of rfl rfl rfl rfl) (fun _ _ _ _ h => h)) (pa_cons (pv 0) (pa_cons (pv 2) pa_nil)))))))), ?_⟩
    have hl : (xs.length : Int) = cs.length := by rw [hA.1]
    have vt : Ans (tTest (tOp (rI0 fun i j => .bl (decide (j < i))) (tCB (fun xs H Q => ∃ p ys, xs = [.ref p] ∧ (SqL K H p ys ∨ SqT K H p ys) ∧ Q (.int ys.length) H) (tCons (tVar 1) tNil)) (tC (.int 200)))) [some (.ref m), some (.ref a), none] H (decide ((200 : Int) < xs.length)) := by
      intro R q
      exact ⟨_, rfl, a, xs, rfl, hS.or, _, _, rfl, rfl, _, rfl, q⟩
    refine st_seq (s_if vt (fun hb => ?_) (fun hb => ?_))
    · have hn : 200 < cs.length := by
        have := of_decide_eq_true hb
        omega
      have e : progErr ns cs = some (.count "commands" cs.length) := if_pos hn
      rw [e] at k
      refine ⟨_, rfl, a, _, rfl, hS.or, by show 2 ≤ 1000; decide, mk2 ?_⟩
      rw [hl]
      exact k
    · have hn : ¬ 200 < cs.length := by
        have := of_decide_eq_false hb
        omega
      have e : progErr ns cs = cs.findSome? (cmdErr ns) := if_neg hn
      rw [e] at k
      refine sq_for (xs := xs) (fun i σ H' => H' = H ∧ (∃ v : Option V, σ = [some (.ref m), some (.ref a), v]) ∧ ∀ j c, j < i → cs[j]? = some c → cmdErr ns c = none)
        (fun R q => ⟨_, rfl, q⟩) hS ⟨rfl, ⟨none, rfl⟩, fun j c hj => absurd hj (Nat.not_lt_zero j)⟩ (fun i σ H' _ ⟨e, _⟩ => by rw [e]; exact hS) ?_ ?_
      · rintro i x σ H' hi ⟨rfl, ⟨v, rfl⟩, hg⟩
        obtain ⟨c, hc, hx⟩ := hA.get hi
        refine g_name ?_
        refine ⟨_, rfl, _, rfl, m, ns, x, c, rfl, hM, hx, ?_⟩
        cases ec : cmdErr ns c with
        | none =>
          refine ⟨rfl, ⟨_, rfl⟩, fun j c2 hj hj2 => ?_⟩
          rcases Nat.lt_succ_iff_lt_or_eq.mp hj with h1 | h1
          · exact hg j c2 h1 hj2
          · rw [h1, hc] at hj2
            cases hj2
            exact ec
        | some er =>
          have e2 : cs.findSome? (cmdErr ns) = some er := findSome_at hc ec hg
          rw [e2] at k
          exact k
      · rintro σ H' ⟨rfl, _, hg⟩
        have e2 : cs.findSome? (cmdErr ns) = none := by
          refine List.findSome?_eq_none_iff.mpr fun c hc => ?_
          obtain ⟨j, hj, e⟩ := List.getElem_of_mem hc
          exact hg j c (by rw [hA.1]; exact hj) (by rw [← e]; simp [hj])
        rw [e2] at k
        exact k
end
abbrev sProgI : Stmt := inClass (topS 14) 0
theorem scProgI : FnScope ["self", "memory", "commands"] ["self", "memory", "commands"] (defScope sProgI) := ⟨rfl, rfl, rfl, by decide +kernel, rfl, by decide +kernel, by decide +kernel⟩
section
variable {P : Program} {w : World} {K : PySem.W.Frag} {mg : Str → Option Value} {base : Heap}
theorem ok_progI {f : Addr} {d : Ad} {fd : FuncData} (F : Fun K "__init__" "Program.__init__" sProgI f fd) (T : TProg K mg d) (FC : Cal P w K mg base (L2.CX P w) "check_commands" 6 ["memory", "commands"] (spCmds d K)) :
    FnOk P w K mg base (L2.CX P w) 7 f fd ["self", "memory", "commands"] (spProgI d K) := by
  refine F.okX scProgI (fun vs H Q E h => ?_) (fun cdv A outer s H vs Q E hr h => ?_)
  · obtain ⟨b, p, dx, m, ns, a, xs, cs, rfl, _⟩ := h
    rfl
  · obtain ⟨b, p, dx, m, ns, a, xs, cs, rfl, hp, hM, ha, hA, kE, kQ⟩ := h
    refine ⟨_, (pss_cons (ps_expr (pe_cal FC (hr.mono (by decide)) (by rfl) (passes_call (takes_of rfl rfl rfl rfl) (fun _ _ _ _ h => h)) (pa_cons (pv 1) (pa_cons (pv 2) pa_nil))))
    (pss_cons (ps_fld (pv 0) (pv 1) rfl)
    (pss_one (ps_fld (pv 0) (pe_callTy call_tuple_of (by rfl) T.b_tuple (by decide +kernel) (pa_cons (pv 2) pa_nil)) rfl)))), ?_⟩
    refine ⟨_, rfl, _, rfl, b, m, ns, a, xs, cs, rfl, hM, sq_hoOf ha, hA, ?_⟩
    cases e : progErr ns cs with
    | some er => exact kE er e
    | none =>
      have k := kQ e
      refine ⟨_, rfl, _, rfl, p, d.pr, dx, [], rfl, hp, T.cP, T.nMe, by show 0 < 1000; decide, ?_⟩
      have nap : a ≠ p := ne_of ha hp (by cases b <;> (intro z; cases z))
      obtain ⟨dm, tm, hm1, hm2⟩ := id hM
      have nmp : m ≠ p := fun z => by
        rw [z, hp] at hm1
        injection Option.some.inj hm1 with _ _ q
        cases q
      have ntp : tm ≠ p := ne_of hm2 hp (by intro z; cases z)
      have core : ∀ (t : Addr) (H2 : Hp), Ks p H H2 → H2 t = some (.tup xs) → t ≠ p → H2 p = some (.ins d.pr dx [("memory", .ref m)]) → Q .non (upd H2 p (.ins d.pr dx [("memory", .ref m), ("commands", .ref t)])) := by
        intro t H2 ks ht ntp2 hp2
        have ks2 : Ks p H (upd H2 p (.ins d.pr dx [("memory", .ref m), ("commands", .ref t)])) := fun b o hb n => by
          rw [upd_ne n]
          exact ks b o hb n
        refine k _ ks2 ⟨dx, m, t, xs, upd_same, ⟨dm, tm, ks2 _ _ hm1 nmp, ks2 _ _ hm2 ntp⟩, by rw [upd_ne ntp2]; exact ht, hA.mono fun v c q => ?_⟩
        obtain ⟨y, dy, rfl, hy⟩ := q
        refine ⟨y, dy, rfl, ks2 _ _ hy (fun z => ?_)⟩
        rw [z, hp] at hy
        injection Option.some.inj hy with q1 _ q3
        cases c with
        | store l wd n => cases q3
        | flush l => cases q3
        | fence => exact T.ne q1
      have e1 : putF "memory" (.ref m) [] = [(("memory" : Str), V.ref m)] := rfl
      have e2 : ∀ t : V, putF "commands" t [(("memory" : Str), V.ref m)] = ([("memory", V.ref m), ("commands", t)] : List (Str × V)) := fun t => putF_at pf_mc
      rw [e1]
      have ks1 : Ks p H (upd H p (.ins d.pr dx [("memory", .ref m)])) := fun b o hb n => by
        rw [upd_ne n]
        exact hb
      cases b with
      | true =>
        refine ⟨_, rfl, a, xs, rfl, .inl ⟨SqL.of (ks1 _ _ ha nap), fun t ht => ?_⟩⟩
        have npt : p ≠ t := ne_of_none upd_same ht
        refine ⟨_, rfl, p, d.pr, dx, [("memory", .ref m)], rfl, by rw [upd_ne npt, upd_same], T.cP, T.nCo, by show 1 < 1000; decide, ?_⟩
        rw [e2]
        exact core t _ (ks1.trans (Ks.of (Same.new ht))) upd_same (Ne.symm npt) (by rw [upd_ne npt, upd_same])
      | false =>
        refine ⟨_, rfl, a, xs, rfl, .inr ⟨SqT.of (ks1 _ _ ha nap), ?_⟩⟩
        refine ⟨_, rfl, p, d.pr, dx, [("memory", .ref m)], rfl, upd_same, T.cP, T.nCo, by show 1 < 1000; decide, ?_⟩
        rw [e2]
        exact core a _ ks1 (ks1 _ _ ha nap) nap upd_same
end
end Q

namespace Q
open PySem PySem.Spec PyProof.Rows L2 LamX
abbrev sMemE : Stmt := inClass (topS 10) 1
theorem scMemE : FnScope ["self", "other"] ["self", "other"] (defScope sMemE) := ⟨rfl, rfl, rfl, by decide +kernel, rfl, by decide +kernel, by decide +kernel⟩
section
variable {P : Program} {w : World} {K : PySem.W.Frag} {mg : Str → Option Value} {base : Heap}
theorem ok_memE {f : Addr} {d : Ad} {fd : FuncData} (F : Fun K "__eq__" "Memory.__eq__" sMemE f fd) (T : TProg K mg d) (gM : mg "Memory" = some (.ref d.me)) (oM : OwnC K d.me) : FnOk P w K mg base CX0 1 f fd ["self", "other"] (spMemEq d) := by
  refine F.ok scMemE (fun vs H Q E h => ?_) (fun cdv A outer s H vs Q E hr h => ?_)
  · obtain ⟨a, b, ns, ms, rfl, _⟩ := h
    rfl
  · obtain ⟨a, b, ns, ms, rfl, ⟨dx, t, ha, ht⟩, ⟨dy, u, hb, hu⟩, k⟩ := h
    refine ⟨_, (pss_one (ps_ret (pe_and (pe_callB call_isi (by rfl) T.b_isi (by decide +kernel) (pa_cons (pv 1) (pa_cons (pe_glob (v := V.ref d.me) rfl gM rfl) pa_nil))) (pe_one (pe_cmpR (op_eqD hr.units) (pe_fld (pv 0) rfl) (pe_fld (pv 1) rfl) (nomark _)))))), ?_⟩
    refine v_isi (σ := [some (.ref a), some (.ref b)]) (val_var (i := 1) rfl) val_c oM hb kit_self _ ?_
    refine ⟨true, rfl, ?_⟩
    refine iteT ?_
    refine ⟨_, rfl, a, d.me, dx, _, _, rfl, ha, T.cM, T.nSz, rfl, _, rfl, b, d.me, dy, _, _, rfl, hb, T.cM, T.nSz, rfl, ?_⟩
    refine ⟨.tuple (ns.map PyData.int), .tuple (ms.map PyData.int), .tup (SqT.of ht) (dpAll_ints ns), .tup (SqT.of hu) (dpAll_ints ms), shaped_tup ns, shaped_tup ms, ?_⟩
    rw [eqv_tup]
    exact k
end
structure TOM (K : PySem.W.Frag) (mg : Str → Option Value) (CO : Addr) : Prop where
  q : PySem.W.excIn K CO [.type "ValueError", .type "Exception", .type "BaseException", .type "object"] "ValueError.__new__" = true
  g : mg "OtherMemory" = some (.ref CO)
  k : PySem.W.keepIn K (.ref CO) = true
  h1 : PySem.W.subIn K (.ref CO) (.type "BaseException") = some true
  h2 : PySem.W.typeIn K (.ref CO) = some (.type "type")
abbrev sProgA : Stmt := inClass (topS 14) 2
theorem scProgA : FnScope ["self", "other"] ["self", "other"] (defScope sProgA) := ⟨rfl, rfl, rfl, by decide +kernel, rfl, by decide +kernel, by decide +kernel⟩
section
variable {P : Program} {w : World} {K : PySem.W.Frag} {mg : Str → Option Value} {base : Heap}
theorem ok_progA {f CO : Addr} {d : Ad} {fd : FuncData} (F : Fun K "__add__" "Program.__add__" sProgA f fd) (T : TProg K mg d) (TO : TOM K mg CO) (DM : Dun P w K mg base CX0 d.me "__eq__" 1 ["self", "other"] (spMemEq d))
    (hNe : PySem.W.findIn K (.ref d.me) "__ne__" = some (some (.builtin "object.__ne__"))) (hTop : PySem.W.mroIn K d.me (.type "object") = some true) (FP : Mak P w K mg base (L2.CX P w) "Program" d.pr 7 ["self", "memory", "commands"] (spProgI d K)) :
    FnOk P w K mg base (L2.CX P w) 9 f fd ["self", "other"] (spAddX d CO) := by
  refine F.okX scProgA (fun vs H Q E h => ?_) (fun cdv A outer s H vs Q E hr h => ?_)
  · obtain ⟨p, q, ns, ms, cs, es, rfl, _⟩ := h
    rfl
  · obtain ⟨p, q, ns, ms, cs, es, rfl, ⟨dx, m, t, xs, hp, hm, ht, hx⟩, ⟨dy, n, u, ys, hq, hn, hu, hy⟩, hsz, kO, kS⟩ := h
    refine ⟨_, (pss_cons (ps_if (pt_cmpR (op_neO DM hNe hTop (hr.mono (by decide)) pass0) (pe_fld (pv 0) rfl) (pe_fld (pv 1) rfl) (nomark _)) (pss_one (ps_raise rfl (takes_of rfl rfl rfl rfl) (pmk_own0 PySem.F.excBase_ValueError TO.q TO.g TO.k (raises_own TO.h1 TO.h2) (by rfl)))) pss_nil)
    (pss_one (ps_ret (pe_mak FP hr (by rfl) (passes_call (takes_of rfl rfl rfl rfl) (fun _ _ _ _ h => h)) (pa_cons (pe_fld (pv 0) rfl) (pa_cons (pe_op op_catA (pe_fld (pv 0) rfl) (pe_fld (pv 1) rfl)) pa_nil)))))), ?_⟩
    obtain ⟨dm, tm, hm1, hm2⟩ := id hm
    obtain ⟨dn, tn, hn1, hn2⟩ := id hn
    refine ⟨_, rfl, p, d.pr, dx, _, _, rfl, hp, T.cP, T.nMe, rfl, _, rfl, q, d.pr, dy, _, _, rfl, hq, T.cP, T.nMe, rfl, ?_⟩
    refine ⟨m, n, dm, dn, _, _, rfl, rfl, hm1, hn1, m, n, ns, ms, rfl, hm, hn, decide (ns = ms), rfl, _, rfl, ?_⟩
    by_cases same : ns = ms
    · rw [decide_eq_true same]
      refine iteF ?_
      obtain ⟨kE, k⟩ := kS same
      refine ⟨_, rfl, p, d.pr, dx, _, _, rfl, hp, T.cP, T.nMe, rfl, _, rfl, p, d.pr, dx, _, _, rfl, hp, T.cP, T.nCo, rfl, _, rfl, q, d.pr, dy, _, _, rfl, hq, T.cP, T.nCo, rfl, ?_⟩
      have fin : ∀ (c : Addr) (H1 : Hp), Same H H1 → H1 c = some (.tup (xs ++ ys)) → ∀ x dz, H1 x = none → H1 dz = none → dz ≠ x →
          spProgI d K [.ref x, .ref m, .ref c] (upd (upd H1 dz (.own x)) x (.ins d.pr dz [])) (fun v H2 => v = .non ∧ Q (.ref x) H2) E := by
        intro c H1 e hc x dz nx ndz ne
        have e1 : Same H1 (upd (upd H1 dz (.own x)) x (.ins d.pr dz [])) := Same.mut (Same.new ndz) nx
        refine ⟨false, x, dz, m, ns, c, xs ++ ys, cs ++ es, rfl, upd_same, hm.ke (Ke.same (e.trans e1)), e1 _ _ hc, (hx.app hy).mono fun v c q => q.ke (Ke.same (e.trans e1)), fun er z => kE er z _ (e.trans e1), fun z H2 ks hP => ⟨rfl, k z x H2 (fun b o hb => ?_) hP⟩⟩
        exact ks _ _ ((e.trans e1) _ _ hb) (ne_of_none (e _ _ hb) nx)
      have szs : xs.length + ys.length ≤ sizeLine := by
        rw [hx.1, hy.1]
        exact Nat.le_trans hsz (by decide)
      refine ⟨t, u, xs, ys, rfl, rfl, SqT.of ht, SqT.of hu, szs, fun z => ?_, fun z1 z2 => ?_, fun z1 z2 c hc => ?_⟩
      · refine fin u H (Same.refl H) ?_
        rw [z]
        exact hu
      · refine fin t H (Same.refl H) ?_
        rw [z2, List.append_nil]
        exact ht
      · exact fin c _ (Same.new hc) upd_same
    · rw [decide_eq_false same]
      exact iteT (kO same)
end
end Q

namespace Q
open PySem PySem.Spec PyProof.Rows L2 LamX
abbrev sSizes : Stmt := topS 24
theorem scSizes : FnScope ["_law_source_here", "_law_most", "_law_k"] ["_law_source_here", "_law_most"] (defScope sSizes) := ⟨rfl, rfl, rfl, by decide +kernel, rfl, by decide +kernel, by decide +kernel⟩
abbrev nSizes : List Str := ["_law_source_here", "_law_most", "_law_k"]
section
variable {P : Program} {w : World} {K : PySem.W.Frag} {mg : Str → Option Value} {base : Heap}
structure TRange (mg : Str → Option Value) : Prop where
  b_range : mg "range" = none
theorem ok_sizes {f : Addr} {fd : FuncData} (F : Fun K "_law_sizes" "_law_sizes" sSizes f fd) (T : TRange mg) (FD : Cal P w K mg base CX0 "_law_draw" 1 ["_law_source_here", "_law_many"] spDraw) : FnOk P w K mg base CX0 2 f fd ["_law_source_here", "_law_most"] spSizes := by
  refine F.ok scSizes (fun vs H Q E h => ?_) (fun cdv A outer s H vs Q E hr h => ?_)
  · obtain ⟨S, m, rfl, _⟩ := h
    rfl
  · obtain ⟨S, m, rfl, hs, m1, m6, k⟩ := h
    refine ⟨_, (pss_one (ps_ret (pe_lc (own := [("_law_k", 2)]) (g := gName 2) (tt := tYes) (by rfl) scSizes.nd (pi_range1 (by rfl) T.b_range (pa_cons (pe_op op_add pe_int (pe_cal FD (hr.mono (by decide)) (by rfl) pass0 (pa_cons (pv 0) (pa_cons (pv 1) pa_nil)))) pa_nil)) (blkOk_by (own := [("_law_k", 2)]) (N := nSizes) (sc := defScope sSizes) (by decide +kernel)) (fun _ _ _ _ _ => (pg_name (i := 2) scSizes.nd rfl (Or.inl rfl))) (fun _ _ _ _ _ => pts_nil) (fun _ _ _ _ _ => (pe_op op_add pe_int (pe_cal FD (hr.mono (by decide)) (by rfl) pass0 (pa_cons (pv 0) (pa_cons pe_int pa_nil)))))))), ?_⟩
    refine ⟨_, rfl, _, rfl, S, m, rfl, hs, by omega, by omega, fun r H1 r0 r1 hs1 ks => ?_⟩
    refine ⟨_, _, rfl, rfl, _, rfl, by omega, by omega, fun Dl hD => ?_⟩
    have nDS : Dl ≠ S := src_ne (o := .lst []) hs1 hD
    refine lc_range (lo := 0) (n := (1 + r).toNat) (fun i H' => ∃ ns : List Int, ns.length = i ∧ (∀ n ∈ ns, 1 ≤ n ∧ n ≤ 4) ∧ H' Dl = some (.lst (ns.map V.int)) ∧ HasSrc S H' ∧ Ks S H1 H') ⟨[], rfl, fun n hn => by simp at hn, upd_same, src_new hs1 hD, Ks.of (Same.new hD)⟩ ?_ ?_
    · rintro i H2 hi ⟨ns, hl, hg, hDl, hs2, ks2⟩
      refine ⟨rfl, lc_yes ?_⟩
      refine ⟨_, rfl, S, 4, rfl, hs2, by decide, by decide, fun z H3 z0 z1 hs3 ks3 => ?_⟩
      have hD3 : H3 Dl = some (.lst (ns.map V.int)) := ks3 _ _ hDl nDS
      refine ⟨_, _, rfl, rfl, _, hD3, small1000 (by rw [List.length_map]; omega), ns ++ [1 + z], by rw [List.length_append, hl]; rfl, fun n hn => ?_, by rw [List.map_append]; exact upd_same, src_mut hs3 (Ne.symm nDS), (ks2.trans ks3).mut hD⟩
      rcases List.mem_append.mp hn with h | h
      · exact hg n h
      · rw [List.mem_singleton.mp h]
        omega
    · rintro H2 ⟨ns, hl, hg, hDl, hs2, ks2⟩
      exact k Dl ns H2 hs2 (ks.trans ks2) hDl nDS (Ks.free ks hs1 hD) ⟨by omega, hg⟩ (by omega)
end
abbrev sNum : Stmt := topS 25
theorem scNum : FnScope ["_law_source_here", "_law_great"] ["_law_source_here"] (defScope sNum) := ⟨rfl, rfl, rfl, by decide +kernel, rfl, by decide +kernel, by decide +kernel⟩
section
variable {P : Program} {w : World} {K : PySem.W.Frag} {mg : Str → Option Value} {base : Heap}
theorem ok_num {f : Addr} {fd : FuncData} (F : Fun K "_law_number" "_law_number" sNum f fd) (FD : Cal P w K mg base CX0 "_law_draw" 1 ["_law_source_here", "_law_many"] spDraw) (FP : Cal P w K mg base CX0 "_law_pick" 2 ["_law_source_here", "_law_items"] (spPick K)) : FnOk P w K mg base CX0 3 f fd ["_law_source_here"] spNumber := by
  refine F.ok scNum (fun vs H Q E h => ?_) (fun cdv A outer s H vs Q E hr h => ?_)
  · obtain ⟨S, rfl, _⟩ := h
    rfl
  · obtain ⟨S, rfl, hs, k⟩ := h
    refine ⟨_, (pss_cons (ps_set (i := 1) scNum.nd rfl (Or.inl rfl) (pe_op op_add (pe_op op_pow pe_int pe_int) (pe_cal FD (hr.mono (by decide)) (by rfl) pass0 (pa_cons (pv 0) (pa_cons (pe_op op_pow pe_int pe_int) pa_nil)))))
    (pss_one (ps_ret (pe_cal FP (hr.mono (by decide)) (by rfl) pass0 (pa_cons (pv 0) (pa_cons (pe_lst (pa_cons pe_int (pa_cons pe_int (pa_cons pe_int (pa_cons (pe_un un_neg pe_int) (pa_cons pe_int (pa_cons (pv 1) (pa_cons (pe_op op_sub pe_int (pv 1)) (pa_cons (pe_cal FD (hr.mono (by decide)) (by rfl) pass0 (pa_cons (pv 0) (pa_cons pe_int pa_nil))) pa_nil))))))))) pa_nil)))))), ?_⟩
    refine ⟨_, _, rfl, rfl, ⟨by decide, by decide, by decide⟩, _, rfl, _, _, rfl, rfl, ⟨by decide, by decide, by decide⟩, S, _, rfl, hs, by decide, by decide, fun r H1 r0 r1 hs1 ks1 => ?_⟩
    refine ⟨_, _, rfl, rfl, ?_⟩
    generalize (10 : Int) ^ (30 : Int).toNat + r = g
    refine ⟨_, rfl, _, rfl, _, rfl, _, rfl, _, _, rfl, rfl, _, rfl, S, _, rfl, hs1, by decide, by decide, fun q H2 q0 q1 hs2 ks2 => ?_⟩
    refine ⟨by show 8 ≤ sizeLine; decide, fun p hp => ?_⟩
    refine ⟨S, p, _, rfl, src_new hs2 hp, upd_same, src_ne (o := .lst []) hs2 hp, by show 0 < 8; decide, by show 8 < 1000000; decide, fun x H3 hx hs3 ks3 => ?_⟩
    obtain ⟨z, rfl⟩ : ∃ z, x = .int z := by
      simp only [List.mem_cons, List.not_mem_nil, or_false] at hx
      rcases hx with rfl | rfl | rfl | rfl | rfl | rfl | rfl | rfl <;> exact ⟨_, rfl⟩
    exact k z H3 hs3 ((ks1.trans ks2).trans ((Ks.of (Same.new hp)).trans ks3))
end
abbrev sSpecs : Stmt := topS 26
theorem scSpecs : FnScope ["_law_source_here", "_law_sizes_so", "_law_least", "_law_most", "_law_result", "_law_k", "_law_kind", "_law_a"] ["_law_source_here", "_law_sizes_so", "_law_least", "_law_most"] (defScope sSpecs) := ⟨rfl, rfl, rfl, by decide +kernel, rfl, by decide +kernel, by decide +kernel⟩
section
variable {P : Program} {w : World} {K : PySem.W.Frag} {mg : Str → Option Value} {base : Heap}
theorem ok_specs {f : Addr} {fd : FuncData} (F : Fun K "_law_specs" "_law_specs" sSpecs f fd) (T : TRange mg) (T2 : TPick mg) (FD : Cal P w K mg base CX0 "_law_draw" 1 ["_law_source_here", "_law_many"] spDraw) (FP : Cal P w K mg base CX0 "_law_pick" 2 ["_law_source_here", "_law_items"] (spPick K)) (FN : Cal P w K mg base CX0 "_law_number" 3 ["_law_source_here"] spNumber) : FnOk P w K mg base CX0 4 f fd ["_law_source_here", "_law_sizes_so", "_law_least", "_law_most"] spSpecs := by
  refine F.ok scSpecs (fun vs H Q E h => ?_) (fun cdv A outer s H0 vs Q E hr h => ?_)
  · obtain ⟨S, p, ns, lo, hi, rfl, _⟩ := h
    rfl
  · obtain ⟨S, p, ns, lo, hi, rfl, hs0, hp0, nps, ok, lo0, lohi, hi200, k⟩ := h
    refine ⟨_, (Evl.pss_cut (ps_set (i := 4) scSpecs.nd rfl (Or.inl rfl) (pe_lst pa_nil))
    (Evl.pss_cut (ps_for PassesOwn.never rfl (pi_range1 (by rfl) T.b_range (pa_cons (pe_op op_add (pv 2) (pe_cal FD (hr.mono (by decide)) (by rfl) pass0 (pa_cons (pv 0) (pa_cons (pe_op op_add (pe_op op_sub (pv 3) (pv 2)) pe_int) pa_nil)))) pa_nil)) (pg_name (i := 5) scSpecs.nd rfl (Or.inl rfl)) (Evl.pss_cut (ps_set (i := 6) scSpecs.nd rfl (Or.inl rfl) (pe_cal FP (hr.mono (by decide)) (by rfl) pass0 (pa_cons (pv 0) (pa_cons (pe_lst (pa_cons pe_str (pa_cons pe_str (pa_cons pe_str (pa_cons pe_str (pa_cons pe_str (pa_cons pe_str pa_nil))))))) pa_nil))))
    (Evl.pss_cut (ps_set (i := 7) scSpecs.nd rfl (Or.inl rfl) (pe_cal FD (hr.mono (by decide)) (by rfl) pass0 (pa_cons (pv 0) (pa_cons (pe_callB call_len_seq (by rfl) T2.b_len (by decide +kernel) (pa_cons (pv 1) pa_nil)) pa_nil))))
    (pss_one (ps_expr (pe_bm PySem.F.plainAttrs_list PySem.F.slot_list_append PySem.F.type_list_append mt_append (pv 4) (pa_cons (pe_tup (pa_cons (pv 6) (pa_cons (pv 7) (pa_cons (pe_cal FD (hr.mono (by decide)) (by rfl) pass0 (pa_cons (pv 0) (pa_cons (pe_ix ix_list (pv 1) (pv 7) (fun _ _ => rfl)) pa_nil))) (pa_cons (pe_cal FN (hr.mono (by decide)) (by rfl) pass0 (pa_cons (pv 0) pa_nil)) pa_nil))))) pa_nil)))))))
    (pss_one (ps_ret (pv 4))))), ?_⟩
    refine ⟨fun σ H => ∃ r, σ = [some (.ref S), some (.ref p), some (.int lo), some (.int hi), some (.ref r), none, none, none] ∧ HasSrc S H ∧ Ks S H0 H ∧ H r = some (.lst []) ∧ H0 r = none, ?_, ?_⟩
    · exact ⟨Nat.zero_le _, fun r hr => g_name ⟨r, rfl, src_new hs0 hr, Ks.of (Same.new hr), upd_same, hr⟩⟩
    rintro σ H ⟨r, rfl, hs, ks, hr, h0r⟩
    have nrs : r ≠ S := by
      obtain ⟨a, b, c, hS⟩ := hs0
      exact Ne.symm (ne_of_none hS h0r)
    refine ⟨fun σ H => ∃ ss, (∃ v5 v6 v7 : Option V, σ = [some (.ref S), some (.ref p), some (.int lo), some (.int hi), some (.ref r), v5, v6, v7]) ∧ HasSrc S H ∧ Ks S H0 H ∧ Specs H r ss ∧ (∀ s ∈ ss, Good ns s) ∧ lo ≤ (ss.length : Int) ∧ (ss.length : Int) ≤ hi, ?_, ?_⟩
    · refine ⟨_, rfl, _, rfl, _, rfl, _, rfl, _, _, rfl, rfl, _, _, rfl, rfl, S, _, rfl, hs, by omega, by omega, fun n H1 n0 n1 hs1 ks1 => ?_⟩
      refine ⟨_, _, rfl, rfl, _, rfl, by omega, by omega, ?_⟩
      refine for_range (lo := 0) (n := (lo + n).toNat) (fun i σ H => ∃ ss, (∃ v5 v6 v7 : Option V, σ = [some (.ref S), some (.ref p), some (.int lo), some (.int hi), some (.ref r), v5, v6, v7]) ∧ HasSrc S H ∧ Ks S H0 H ∧ Specs H r ss ∧ (∀ s ∈ ss, Good ns s) ∧ ss.length = i) ?_ ?_ ?_
      · exact ⟨[], ⟨_, _, _, rfl⟩, hs1, ks.trans ks1, ⟨[], ks1 _ _ hr nrs, .nil⟩, fun s h => by simp at h, rfl⟩
      · clear hs ks hr hs1 ks1
        rintro i σ H hit ⟨ss, ⟨v5, v6, v7, rfl⟩, hs, ks, hS, hg, hl⟩
        refine g_name ?_
        -- the kind
        refine ⟨fun σ H => ∃ kd : Kd, (∃ v5 v7 : Option V, σ = [some (.ref S), some (.ref p), some (.int lo), some (.int hi), some (.ref r), v5, some (.str kd.str), v7]) ∧ HasSrc S H ∧ Ks S H0 H ∧ Specs H r ss, ?_, ?_⟩
        · refine ⟨_, rfl, (by show 6 ≤ sizeLine; decide), fun q hq => ?_⟩
          have hS1 := hS.same (Same.new (o := .lst [.str "store", .str "store", .str "store", .str "flush", .str "flush", .str "fence"]) hq)
          refine ⟨S, q, _, rfl, src_new hs hq, upd_same, src_ne (o := .lst []) hs hq, by decide, by decide, fun x H2 hx hs2 ks2 => g_name ?_⟩
          obtain ⟨kd, rfl⟩ : ∃ kd : Kd, x = .str kd.str := by
            simp only [List.mem_cons, List.not_mem_nil, or_false] at hx
            rcases hx with rfl | rfl | rfl | rfl | rfl | rfl
            · exact ⟨.st, rfl⟩
            · exact ⟨.st, rfl⟩
            · exact ⟨.st, rfl⟩
            · exact ⟨.fl, rfl⟩
            · exact ⟨.fl, rfl⟩
            · exact ⟨.fe, rfl⟩
          exact ⟨kd, ⟨_, _, rfl⟩, hs2, (ks.trans (Ks.of (Same.new hq))).trans ks2, hS1.ks (src_new hs hq) nrs ks2⟩
        clear hs ks hS
        rintro σ H ⟨kd, ⟨v5, v7, rfl⟩, hs, ks, hS⟩
        -- the line
        refine ⟨fun σ H => ∃ a : Nat, a < ns.length ∧ (∃ v5 : Option V, σ = [some (.ref S), some (.ref p), some (.int lo), some (.int hi), some (.ref r), v5, some (.str kd.str), some (.int (a : Int))]) ∧ HasSrc S H ∧ Ks S H0 H ∧ Specs H r ss, ?_, ?_⟩
        · have hp := ks _ _ hp0 nps
          refine ⟨_, rfl, _, rfl, p, _, rfl, .inl (SqL.of hp), S, _, rfl, hs, ?_, ?_, fun z H2 z0 z1 hs2 ks2 => g_name ?_⟩
          · rw [List.length_map]; have := ok.1; omega
          · rw [List.length_map]; have := ok.1; omega
          · rw [List.length_map] at z1
            exact ⟨z.toNat, by omega, ⟨_, by rw [Int.toNat_of_nonneg z0]; rfl⟩, hs2, ks.trans ks2, hS.ks hs nrs ks2⟩
        clear hs ks hS
        rintro σ H ⟨a, ha, ⟨v5, rfl⟩, hs, ks, hS⟩
        -- the word, the number, the spec
        obtain ⟨vs, hr1, hA⟩ := id hS
        refine ⟨_, rfl, .inl ⟨rfl, vs, SqL.of hr1⟩, ?_⟩
        refine cons1 ?_
        have hp := ks _ _ hp0 nps
        have hsz := sizes_get ok ha
        refine ⟨_, rfl, _, rfl, _, rfl, _, rfl, _, rfl, p, _, _, _, rfl, rfl, SqL.of hp, atI_nat (sizes_at ha), S, _, rfl, hs, by omega, by omega, fun b H2 b0 b1 hs2 ks2 => ?_⟩
        refine ⟨_, rfl, S, rfl, hs2, fun c H3 hs3 ks3 => ?_⟩
        refine ⟨by show 4 ≤ sizeLine; decide, fun t ht => ?_⟩
        have ke : Ke H H3 := (Ke.ks hs ks2).trans (Ke.ks hs2 ks3)
        have hr3 : H3 r = some (.lst vs) := ks3 _ _ (ks2 _ _ hr1 nrs) nrs
        have e4 := Same.new (o := .tup [.str kd.str, .int (a : Int), .int b, .int c]) ht
        have hr4 := e4 _ _ hr3
        refine ⟨r, vs, .ref t, rfl, rfl, hr4, small1000 (by rw [hA.1]; omega), ss ++ [⟨kd, a, b, c⟩], ⟨_, _, _, rfl⟩, ?_, ?_, ⟨vs ++ [.ref t], upd_same, ?_⟩, ?_, by rw [List.length_append, hl]; rfl⟩
        · exact src_mut (Same.src e4 hs3) (Ne.symm nrs)
        · exact (((ks.trans ks2).trans ks3).trans (Ks.of e4)).mut h0r
        · have k5 := Ke.lst (o := .lst (vs ++ [.ref t])) hr4
          refine All2.snoc (hA.mono fun v c q => q.ke ((ke.trans (Ke.same e4)).trans k5)) ⟨t, rfl, ?_⟩
          exact k5 _ _ upd_same (fun _ z => by cases z) (fun _ z => by cases z)
        · intro s hs4
          rcases List.mem_append.mp hs4 with h | h
          · exact hg s h
          · rw [List.mem_singleton.mp h]
            exact ⟨⟨Int.natCast_nonneg a, by show (a : Int) < ns.length; omega⟩, b0, by show b < ns.getD (a : Int).toNat 0; rw [Int.toNat_natCast]; exact b1⟩
      · rintro σ H ⟨ss, hσ, hs, ks, hS, hg, hl⟩
        exact ⟨ss, hσ, hs, ks, hS, hg, by omega, by omega⟩
    clear hs ks hr
    rintro σ H ⟨ss, ⟨v5, v6, v7, rfl⟩, hs, ks, hS, hg, h1, h2⟩
    exact ⟨_, rfl, k r ss H hs ks hS nrs h0r hg h1 h2⟩
end
abbrev sComm : Stmt := topS 27
theorem scComm : FnScope ["_law_spec", "_law_kind", "_law_a", "_law_b", "_law_c"] ["_law_spec"] (defScope sComm) := ⟨rfl, rfl, rfl, by decide +kernel, rfl, by decide +kernel, by decide +kernel⟩
section
variable {P : Program} {w : World} {K : PySem.W.Frag} {mg : Str → Option Value} {base : Heap}
theorem ok_comm {f : Addr} {d : Ad} {fd : FuncData} (F : Fun K "_law_command" "_law_command" sComm f fd) (FS : Mak P w K mg base CX0 "Store" d.st 1 ["self", "line", "word", "number"] (spStoreI d)) (FF : Mak P w K mg base CX0 "Flush" d.fl 1 ["self", "line"] (spFlushI d)) (BF : Bare K mg "Fence" d.fe) :
    FnOk P w K mg base CX0 3 f fd ["_law_spec"] (spCommand d) := by
  refine F.ok scComm (fun vs H Q E h => ?_) (fun cdv A outer s H vs Q E hr h => ?_)
  · obtain ⟨v, s, rfl, _⟩ := h
    rfl
  · obtain ⟨v, s, rfl, ⟨r, rfl, hr1⟩, k⟩ := h
    refine ⟨_, (pss_cons (ps_asg (pv 0) (pg_tup (by rfl) (pgs_cons (pg_name (i := 1) scComm.nd rfl (Or.inl rfl)) (pgs_cons (pg_name (i := 2) scComm.nd rfl (Or.inl rfl)) (pgs_cons (pg_name (i := 3) scComm.nd rfl (Or.inl rfl)) (pgs_cons (pg_name (i := 4) scComm.nd rfl (Or.inl rfl)) pgs_nil))))))
    (pss_cons (ps_if (pt_cmpR op_eq (pv 1) pe_str (nomark _)) (pss_one (ps_ret (pe_mak FS hr (by rfl) pass0 (pa_cons (pv 2) (pa_cons (pv 3) (pa_cons (pv 4) pa_nil)))))) pss_nil)
    (pss_one (ps_ret (pe_ifExp (pt_cmpR op_eq (pv 1) pe_str (nomark _)) (pe_mak FF hr (by rfl) pass0 (pa_cons (pv 2) pa_nil)) (pe_bare BF (by rfl))))))), ?_⟩
    refine ⟨_, rfl, r, _, rfl, SqT.of hr1, rfl, _, _, rfl, _, _, rfl, _, _, rfl, _, _, rfl, rfl, ?_⟩
    refine ⟨_, rfl, rfl, _, rfl, ?_⟩
    have made : ∀ (x dx : Addr) (fs : List (Str × V)) (C : Addr), H x = none → H dx = none → dx ≠ x → Same H (upd (upd (upd H dx (.own x)) x (.ins C dx [])) x (.ins C dx fs)) := fun x dx fs C nx ndx ne => Same.mut (Same.mut (Same.new ndx) nx) nx
    refine ite_kd .st (fun ek => ?_) (fun ek => ?_)
    · refine ⟨_, rfl, _, rfl, _, rfl, fun x dx nx ndx ne => ⟨x, dx, _, _, _, rfl, upd_same, rfl, ?_⟩⟩
      refine k x _ (made x dx _ _ nx ndx ne) ⟨x, dx, rfl, ?_⟩
      rw [upd_same]
      unfold Sc.cmd
      rw [ek]
      rfl
    · refine ⟨_, rfl, rfl, _, rfl, ?_⟩
      refine ite_kd .fl (fun ek2 => ?_) (fun e2 => ?_)
      · refine ⟨_, rfl, fun x dx nx ndx ne => ⟨x, dx, _, rfl, upd_same, rfl, ?_⟩⟩
        refine k x _ (made x dx _ _ nx ndx ne) ⟨x, dx, rfl, ?_⟩
        rw [upd_same]
        unfold Sc.cmd
        rw [ek2]
        rfl
      · have ek2 : s.k = .fe := by
          cases q : s.k with
          | st => exact absurd q ek
          | fl => exact absurd q e2
          | fe => rfl
        refine fun x dx nx ndx ne => k x _ (Same.mut (Same.new ndx) nx) ⟨x, dx, rfl, ?_⟩
        rw [upd_same]
        unfold Sc.cmd
        rw [ek2]
        rfl
end
abbrev sLProg : Stmt := topS 28
theorem scLProg : FnScope ["_law_sizes_so", "_law_specs_here", "_law_spec"] ["_law_sizes_so", "_law_specs_here"] (defScope sLProg) := ⟨rfl, rfl, rfl, by decide +kernel, rfl, by decide +kernel, by decide +kernel⟩
abbrev nLProg : List Str := ["_law_sizes_so", "_law_specs_here", "_law_spec"]
section
variable {P : Program} {w : World} {K : PySem.W.Frag} {mg : Str → Option Value} {base : Heap}
theorem ok_lprog {f : Addr} {d : Ad} {fd : FuncData} (F : Fun K "_law_program" "_law_program" sLProg f fd) (FM : Mak P w K mg base (L2.CX P w) "Memory" d.me 4 ["self", "sizes"] (spMemInit K d.bc d.me)) (FG : Mak P w K mg base (L2.CX P w) "Program" d.pr 7 ["self", "memory", "commands"] (spProgI d K))
    (FC : Cal P w K mg base CX0 "_law_command" 3 ["_law_spec"] (spCommand d)) : FnOk P w K mg base (L2.CX P w) 9 f fd ["_law_sizes_so", "_law_specs_here"] (spProgramX d) := by
  refine F.okX scLProg (fun vs H Q E h => ?_) (fun cdv A outer s H0 vs Q E hr h => ?_)
  · obtain ⟨p, q, ns, ss, rfl, _⟩ := h
    rfl
  · obtain ⟨p, q, ns, ss, rfl, hp, ok, hS, h400, kE, k⟩ := h
    refine ⟨_, (pss_one (ps_ret (pe_mak FG (hr.mono (by decide)) (by rfl) (passes_call (takes_of rfl rfl rfl rfl) (fun _ _ _ _ h => h)) (pa_cons (pe_mak FM (hr.mono (by decide)) (by rfl) (passes_call (takes_of rfl rfl rfl rfl) (fun _ _ _ _ h => h)) (pa_cons (pv 0) pa_nil)) (pa_cons (pe_lc (own := [("_law_spec", 2)]) (g := gName 2) (tt := tYes) (by rfl) scLProg.nd (pi_list (pv 1)) (blkOk_by (own := [("_law_spec", 2)]) (N := nLProg) (sc := defScope sLProg) (by decide +kernel)) (fun _ _ _ _ _ => (pg_name (i := 2) scLProg.nd rfl (Or.inl rfl))) (fun _ _ _ _ _ => pts_nil) (fun _ _ _ _ _ => (pe_cal FC (hr.mono (by decide)) (by rfl) pass0 (pa_cons (pv 2) pa_nil)))) pa_nil))))), ?_⟩
    refine ⟨_, rfl, fun m dm nm ndm ne => ⟨true, m, dm, p, ns, rfl, upd_same, SqL.of ?_, ne_of_none hp nm, fun w n hb => ?_, fun _ => ⟨fun _ t ht => ⟨rfl, ?_⟩, fun z => by cases z⟩⟩⟩
    · exact Same.mut (Same.new ndm) nm _ _ hp
    · rw [ok.bad] at hb
      cases hb
    have ntm : t ≠ m := fun z => by
      rw [z, upd_same] at ht
      cases ht
    have e1 : Same H0 (upd (upd (upd (upd H0 dm (.own m)) m (.ins d.me dm [])) t (.tup (ns.map V.int))) m (.ins d.me dm [("sizes", .ref t)])) := Same.mut ((Same.mut (Same.new ndm) nm).trans (Same.new ht)) nm
    have hM : MemAt d (upd (upd (upd (upd H0 dm (.own m)) m (.ins d.me dm [])) t (.tup (ns.map V.int))) m (.ins d.me dm [("sizes", .ref t)])) m ns := ⟨dm, t, upd_same, by rw [upd_ne ntm, upd_same]⟩
    generalize upd (upd (upd (upd H0 dm (.own m)) m (.ins d.me dm [])) t (.tup (ns.map V.int))) m (.ins d.me dm [("sizes", .ref t)]) = H1 at e1 hM
    obtain ⟨vs, hq, hA⟩ := hS.same e1
    refine ⟨_, rfl, q, rfl, ⟨_, SqL.of hq⟩, fun Dl hD => ?_⟩
    refine lc_list (K := K) (a := q) (xs := vs) (fun i H' => ∃ xs, H' Dl = some (.lst xs) ∧ All2 (CmdAt d H') xs (cmds (ss.take i)) ∧ Same H1 H') ⟨[], upd_same, .nil, Same.new hD⟩ (fun i H' _ h => SqL.of (by obtain ⟨_, _, _, e⟩ := h; exact e _ _ hq)) ?_ ?_
    · rintro i v H2 hi ⟨xs, hx, hC, e2⟩
      obtain ⟨s, hs, hv⟩ := hA.get hi
      have hil : i < ss.length := (List.getElem?_eq_some_iff.mp hs).1
      refine g_name ⟨rfl, lc_yes ?_⟩
      refine ⟨_, rfl, v, s, rfl, hv.ke (Ke.same e2), fun x H3 e3 hx3 => ?_⟩
      have hx4 := e3 _ _ hx
      have k5 := Ke.lst (o := .lst (xs ++ [.ref x])) hx4
      refine ⟨xs, hx4, small1000 (by rw [hC.1, cmds_len, List.length_take]; omega), xs ++ [.ref x], upd_same, ?_, Same.mut (e2.trans e3) hD⟩
      have e6 : cmds (ss.take (i + 1)) = cmds (ss.take i) ++ [s.cmd] := by
        rw [take_snoc hs]
        simp [cmds]
      rw [e6]
      exact All2.snoc (hC.mono fun v c q => q.ke ((Ke.same e3).trans k5)) (hx3.ke k5)
    · rintro H2 ⟨xs, hx, hC, e2⟩
      rw [hA.1, List.take_length] at hC
      refine fun x dx nx ndx ne => ⟨true, x, dx, m, ns, Dl, xs, cmds ss, rfl, upd_same, ?_, ?_, ?_, fun er z => ?_, fun z H3 ks hP => ⟨rfl, k z x H3 (fun b o hb => ?_) hP⟩⟩
      · exact hM.ke ((Ke.same e2).trans (Ke.same (Same.mut (Same.new ndx) nx)))
      · exact Same.mut (Same.new ndx) nx _ _ hx
      · exact hC.mono fun v c q => q.ke (Ke.same (Same.mut (Same.new ndx) nx))
      · exact kE er z _ ((e1.trans e2).trans (Same.mut (Same.new ndx) nx))
      · have hb2 := (e1.trans e2) _ _ hb
        exact ks _ _ (Same.mut (Same.new ndx) nx _ _ hb2) (ne_of_none hb2 nx)
end
abbrev sTold : Stmt := inClass (topS 5) 0
theorem scTold : FnScope ["self"] ["self"] (defScope sTold) := ⟨rfl, rfl, rfl, by decide +kernel, rfl, by decide +kernel, by decide +kernel⟩
abbrev sOut : Stmt := topS 29
theorem scOut : FnScope ["_law_call", "e"] ["_law_call"] (defScope sOut) := ⟨rfl, rfl, rfl, by decide +kernel, rfl, by decide +kernel, by decide +kernel⟩
section
variable {P : Program} {w : World} {K : PySem.W.Frag} {mg : Str → Option Value} {base : Heap}
theorem ok_told {f c : Addr} {oc kV doc pm ct cd : Value} {od an : Option Addr} {osl : Array (Option Value)} (lk : K.lookup f = some ⟨oc, od, .func (PySem.W.fnOf "told" "OtherMemory.told" (defArgs sTold) (defBody sTold) (defScope sTold) .none kV doc pm an cd ct), osl⟩) (hcd : PySem.W.codeIn K cd "OtherMemory.told" = true) :
    FnC P w K mg base 1 f (PySem.W.fnOf "told" "OtherMemory.told" (defArgs sTold) (defBody sTold) (defScope sTold) .none kV doc pm an cd ct) ["self"] (spTold "refused othermemory") := by
  refine fn_ofC lk hcd scTold (fun vs H Q E h => ?_) (fun A outer s H vs Q p hr h => ?_)
  · obtain ⟨a, rfl, _⟩ := h
    rfl
  · obtain ⟨a, rfl, k⟩ := h
    exact ⟨_, (pss_one (ps_ret pe_str)), k⟩
end
/-- what the outcome's def asks of the error classes -/
structure TOutc (P : Program) (w : World) (K : PySem.W.Frag) (mg : Str → Option Value) (base : Heap) (d : Ad) (CO CS : Addr) : Prop where
  xB : XfC K d.bc
  xL : XfC K d.nl
  xW : XfC K d.nw
  xO : XfC K CO
  nWh : PySem.W.findIn K (.ref d.bc) "what" = some none
  nCo : PySem.W.findIn K (.ref d.bc) "count" = some none
  nLi : PySem.W.findIn K (.ref d.nl) "line" = some none
  nWo : PySem.W.findIn K (.ref d.nw) "word" = some none
  gB : mg "BadCount" = some (.ref d.bc)
  gL : mg "NoLine" = some (.ref d.nl)
  gW : mg "NoWord" = some (.ref d.nw)
  gS : mg "StoreError" = some (.ref CS)
  eBB : PySem.W.exmOne K (.ref d.bc) (.ref d.bc) = some true
  eLB : PySem.W.exmOne K (.ref d.nl) (.ref d.bc) = some false
  eLL : PySem.W.exmOne K (.ref d.nl) (.ref d.nl) = some true
  eWB : PySem.W.exmOne K (.ref d.nw) (.ref d.bc) = some false
  eWL : PySem.W.exmOne K (.ref d.nw) (.ref d.nl) = some false
  eWW : PySem.W.exmOne K (.ref d.nw) (.ref d.nw) = some true
  eOB : PySem.W.exmOne K (.ref CO) (.ref d.bc) = some false
  eOL : PySem.W.exmOne K (.ref CO) (.ref d.nl) = some false
  eOW : PySem.W.exmOne K (.ref CO) (.ref d.nw) = some false
  eOS : PySem.W.exmOne K (.ref CO) (.ref CS) = some true
  told : ∃ g fd, XMeth K CO "told" g ∧ FnC P w K mg base 1 g fd ["self"] (spTold "refused othermemory") ∧ Binds K fd ["self"] []
theorem gives_out {X : Cx} {g : Addr} {cdg : Value} {q : Str} {d : Ad} {CO CS : Addr} (T : TOutc X.prog X.w X.K X.mg X.base d CO CS) (hr : Room 2 X.A) : Gives X ["_law_call", "e"] "_law_outcome" (defScope sOut) g cdg (defBody sOut) "_law_call" q (TOutX d CO) := by
  intro f c' s H R tl act hc h
  obtain ⟨gt, fdt, mt, ft, bt⟩ := T.told
  refine ⟨_, pss_one (ps_try_cl (Wout := fun _ _ _ _ => False) rfl rfl scOut.nd L2.takes0
    (fun W pn xe tk _ => pss_one (ps_ret (pe_tup (pa_cons pe_str (pa_cons (act W pn xe _ _ tk) pa_nil)))))
    (.named (i := 1) (c := .ref d.bc) rfl rfl ⟨rfl, rfl, .inl T.gB⟩ (fun a oe cls dd pn hz hf => pss_one (ps_ret (pe_tup (pa_cons pe_str (pa_cons (pe_xf T.xB T.nWh hz hf (pv 1)) (pa_cons (pe_xf T.xB T.nCo hz hf (pv 1)) pa_nil))))))
    (.named (i := 1) (c := .ref d.nl) rfl rfl ⟨rfl, rfl, .inl T.gL⟩ (fun a oe cls dd pn hz hf => pss_one (ps_ret (pe_tup (pa_cons pe_str (pa_cons (pe_xf T.xL T.nLi hz hf (pv 1)) pa_nil)))))
    (.named (i := 1) (c := .ref d.nw) rfl rfl ⟨rfl, rfl, .inl T.gW⟩ (fun a oe cls dd pn hz hf => pss_one (ps_ret (pe_tup (pa_cons pe_str (pa_cons (pe_xf T.xW T.nWo hz hf (pv 1)) pa_nil)))))
    (.named (i := 1) (c := .ref CS) rfl rfl ⟨rfl, rfl, .inl T.gS⟩ (fun a oe cls dd pn hz hf => pss_one (ps_ret (pe_tup (pa_cons (pe_xm T.xO mt ft bt ((hr.deeper _).mono (by decide)) hz hf (pv 1)) pa_nil)))) .nil))))), ?_⟩
  refine ⟨rfl, hc, h _ _ (fun e x H' nt hd kR => ?_) (fun H' kR => ?_) (fun v H1 kR => ⟨by show 2 ≤ sizeLine; decide, kR⟩)⟩
  · cases e with
    | count wh n =>
      refine ⟨true, T.eBB, fun _ a ha => ?_, fun z => by cases z⟩
      exact ⟨_, rfl, rfl, rfl, x, _, .str wh, rfl, hd, rfl, _, rfl, rfl, rfl, x, _, .int n, rfl, hd, rfl, (by show 3 ≤ sizeLine; decide), kR⟩
    | line n =>
      refine ⟨false, T.eLB, (fun z => by cases z), fun _ => ⟨true, T.eLL, fun _ a ha => ?_, fun z => by cases z⟩⟩
      exact ⟨_, rfl, rfl, rfl, x, _, .int n, rfl, hd, rfl, (by show 2 ≤ sizeLine; decide), kR⟩
    | word n =>
      refine ⟨false, T.eWB, (fun z => by cases z), fun _ => ⟨false, T.eWL, (fun z => by cases z), fun _ => ⟨true, T.eWW, fun _ a ha => ?_, fun z => by cases z⟩⟩⟩
      exact ⟨_, rfl, rfl, rfl, x, _, .int n, rfl, hd, rfl, (by show 2 ≤ sizeLine; decide), kR⟩
    | time n => cases nt
  · refine ⟨false, T.eOB, (fun z => by cases z), fun _ => ⟨false, T.eOL, (fun z => by cases z), fun _ => ⟨false, T.eOW, (fun z => by cases z), fun _ => ⟨true, T.eOS, fun _ a ha => ?_, fun z => by cases z⟩⟩⟩⟩
    exact ⟨_, rfl, rfl, rfl, (fun dd z => by cases z), _, rfl, (by show 1 ≤ sizeLine; decide), kR⟩
end Q

namespace Q
open PySem PySem.Spec PyProof.Rows L2 LamX
abbrev sBent : Stmt := topS 30
theorem scBent : FnScope ["_law_source_here", "_law_sizes_so", "_law_spec", "_law_size", "_law_bad", "_law_kind", "_law_a"] ["_law_source_here", "_law_sizes_so", "_law_spec"] (defScope sBent) := ⟨rfl, rfl, rfl, by decide +kernel, rfl, by decide +kernel, by decide +kernel⟩
theorem bad_line {ns : List Int} {k : Kd} {a b c : Int} (h : a < 0 ∨ (ns.length : Int) ≤ a) (hk : k = .st ∨ k = .fl) : cmdErr ns (Sc.cmd ⟨k, a, b, c⟩) = some (.line a) := by
  rcases hk with rfl | rfl
  · exact if_neg (show ¬ (0 ≤ a ∧ a < (ns.length : Int)) by omega)
  · exact if_neg (show ¬ (0 ≤ a ∧ a < (ns.length : Int)) by omega)
theorem bad_word {ns : List Int} {a b c : Int} (h1 : 0 ≤ a ∧ a < ns.length) (h2 : b < 0 ∨ ns.getD a.toNat 0 ≤ b) : cmdErr ns (Sc.cmd ⟨.st, a, b, c⟩) = some (.word b) := by
  show wordErr ns a b = _
  unfold wordErr
  rw [if_pos h1]
  exact if_neg (by omega)
section
variable {P : Program} {w : World} {K : PySem.W.Frag} {mg : Str → Option Value} {base : Heap}
theorem ok_bent {f : Addr} {fd : FuncData} (F : Fun K "_law_bent" "_law_bent" sBent f fd) (T : TPick mg) (FD : Cal P w K mg base CX0 "_law_draw" 1 ["_law_source_here", "_law_many"] spDraw) (FP : Cal P w K mg base CX0 "_law_pick" 2 ["_law_source_here", "_law_items"] (spPick K)) :
    FnOk P w K mg base CX0 3 f fd ["_law_source_here", "_law_sizes_so", "_law_spec"] spBent := by
  refine F.ok scBent (fun vs H Q E h => ?_) (fun cdv A outer s H0 vs Q E hr h => ?_)
  · obtain ⟨S, sz, v, ns, s, rfl, _⟩ := h
    rfl
  · obtain ⟨S, sz, v, ns, s, rfl, hs, hz, nz, ok, ⟨r, rfl, hsp⟩, hg, k⟩ := h
    refine ⟨_, (Evl.pss_cut (ps_set (i := 3) scBent.nd rfl (Or.inl rfl) (pe_callB call_len_seq (by rfl) T.b_len (by decide +kernel) (pa_cons (pv 1) pa_nil)))
    (Evl.pss_cut (ps_set (i := 4) scBent.nd rfl (Or.inl rfl) (pe_cal FP (hr.mono (by decide)) (by rfl) pass0 (pa_cons (pv 0) (pa_cons (pe_lst (pa_cons (pe_un un_neg pe_int) (pa_cons (pv 3) (pa_cons (pe_op op_add (pv 3) pe_int) (pa_cons (pe_op op_sub pe_int (pv 3)) (pa_cons (pe_op op_pow pe_int pe_int) pa_nil)))))) pa_nil))))
    (Evl.pss_cut (ps_if (PW.pt (pw_or (pt_cmpR op_eq (pe_ix ix_tup (pv 2) pe_int (fun _ _ => rfl)) pe_str (nomark _)) (pw_or1 (pt_cmpR op_eq (pe_cal FD (hr.mono (by decide)) (by rfl) pass0 (pa_cons (pv 0) (pa_cons pe_int pa_nil))) pe_int (nomark _))))) (Evl.pss_cut (ps_set (i := 5) scBent.nd rfl (Or.inl rfl) (pe_cal FP (hr.mono (by decide)) (by rfl) pass0 (pa_cons (pv 0) (pa_cons (pe_lst (pa_cons pe_str (pa_cons pe_str pa_nil))) pa_nil))))
    (pss_one (ps_ret (pe_tup (pa_cons (pe_tup (pa_cons (pv 5) (pa_cons (pv 4) (pa_cons (pe_cal FP (hr.mono (by decide)) (by rfl) pass0 (pa_cons (pv 0) (pa_cons (pe_lst (pa_cons pe_int (pa_cons pe_int (pa_cons (pe_un un_neg pe_int) pa_nil)))) pa_nil))) (pa_cons pe_int pa_nil))))) (pa_cons (pe_tup (pa_cons pe_str (pa_cons (pv 4) pa_nil))) pa_nil)))))) pss_nil)
    (Evl.pss_cut (ps_set (i := 6) scBent.nd rfl (Or.inl rfl) (pe_ix ix_tup (pv 2) pe_int (fun _ _ => rfl)))
    (Evl.pss_cut (ps_set (i := 4) scBent.nd rfl (Or.inl rfl) (pe_cal FP (hr.mono (by decide)) (by rfl) pass0 (pa_cons (pv 0) (pa_cons (pe_lst (pa_cons (pe_un un_neg pe_int) (pa_cons (pe_ix ix_list (pv 1) (pv 6) (fun _ _ => rfl)) (pa_cons pe_int (pa_cons (pe_op op_sub pe_int (pe_ix ix_list (pv 1) (pv 6) (fun _ _ => rfl))) (pa_cons (pe_op op_pow pe_int pe_int) pa_nil)))))) pa_nil))))
    (pss_one (ps_ret (pe_tup (pa_cons (pe_tup (pa_cons pe_str (pa_cons (pv 6) (pa_cons (pv 4) (pa_cons pe_int pa_nil))))) (pa_cons (pe_tup (pa_cons pe_str (pa_cons (pv 4) pa_nil))) pa_nil)))))))))), ?_⟩
    refine ⟨fun σ H => σ = [some (.ref S), some (.ref sz), some (.ref r), some (.int (ns.length : Nat)), none, none, none] ∧ H = H0, ?_, ?_⟩
    · refine ⟨_, rfl, sz, _, rfl, .inl (SqL.of hz), ?_, rfl⟩
      rw [List.length_map]
      rfl
    rintro σ H ⟨rfl, rfl⟩
    have l1 : 1 ≤ (ns.length : Int) := by have := ok.1.1; omega
    have p20 : (10 : Int) ^ (20 : Int).toNat = 100000000000000000000 := by decide
    refine ⟨fun σ H' => ∃ bd : Int, (bd < 0 ∨ (ns.length : Int) ≤ bd) ∧ σ = [some (.ref S), some (.ref sz), some (.ref r), some (.int (ns.length : Nat)), some (.int bd), none, none] ∧ HasSrc S H' ∧ Ks S H H', ?_, ?_⟩
    · refine ⟨_, rfl, _, rfl, _, rfl, _, rfl, _, _, rfl, rfl, _, rfl, _, _, rfl, rfl, _, _, rfl, rfl, ⟨by decide, by decide, by decide⟩, by show 5 ≤ sizeLine; decide, fun pl hpl => ?_⟩
      have e1 := fun o => Same.new (o := o) hpl
      refine ⟨S, pl, _, rfl, Same.src (e1 _) hs, upd_same, src_ne (o := .lst []) hs hpl, by show 0 < 5; decide, by show 5 < 1000000; decide, fun x H2 hx hs2 ks2 => ?_⟩
      obtain ⟨bd, rfl, hb⟩ : ∃ bd : Int, x = .int bd ∧ (bd < 0 ∨ (ns.length : Int) ≤ bd) := by
        have h6 := ok.1.2
        simp only [List.mem_cons, List.not_mem_nil, or_false] at hx
        rcases hx with rfl | rfl | rfl | rfl | rfl
        · exact ⟨_, rfl, .inl (by decide)⟩
        · exact ⟨_, rfl, .inr (by omega)⟩
        · exact ⟨_, rfl, .inr (by omega)⟩
        · exact ⟨_, rfl, .inl (by omega)⟩
        · exact ⟨_, rfl, .inr (by omega)⟩
      exact ⟨bd, hb, rfl, hs2, (Ks.of (e1 _)).trans ks2⟩
    rintro σ H1 ⟨bd, hb, rfl, hs1, ks1⟩
    have hr1 : H1 r = some (.tup (scV s)) := ks1 _ _ hsp (fun z => by
      obtain ⟨a, b, c, q⟩ := hs
      rw [z, q] at hsp
      cases hsp)
    have hz1 := ks1 _ _ hz nz
    refine ⟨fun σ H' => σ = [some (.ref S), some (.ref sz), some (.ref r), some (.int (ns.length : Nat)), some (.int bd), none, none] ∧ HasSrc S H' ∧ Ks S H H', ?_, ?_⟩
    · refine ⟨_, rfl, r, scV s, 0, _, rfl, rfl, SqT.of hr1, at0, rfl, _, rfl, ?_⟩
      refine ite_kd .fl (fun ek => ?_) (fun ek => ?_)
      · refine ⟨fun σ H' => ∃ kd : Kd, (kd = .st ∨ kd = .fl) ∧ σ = [some (.ref S), some (.ref sz), some (.ref r), some (.int (ns.length : Nat)), some (.int bd), some (.str kd.str), none] ∧ HasSrc S H' ∧ Ks S H H', ?_, ?_⟩
        · refine ⟨_, rfl, by show 2 ≤ sizeLine; decide, fun p2 hp2 => ?_⟩
          have e2 := fun o => Same.new (o := o) hp2
          refine ⟨S, p2, _, rfl, Same.src (e2 _) hs1, upd_same, src_ne (o := .lst []) hs1 hp2, by show 0 < 2; decide, by show 2 < 1000000; decide, fun x H4 hx hs4 ks4 => ?_⟩
          obtain ⟨kd, rfl, hk⟩ : ∃ kd : Kd, x = .str kd.str ∧ (kd = .st ∨ kd = .fl) := by
            simp only [List.mem_cons, List.not_mem_nil, or_false] at hx
            rcases hx with rfl | rfl
            · exact ⟨.st, rfl, .inl rfl⟩
            · exact ⟨.fl, rfl, .inr rfl⟩
          exact ⟨kd, hk, rfl, hs4, ks1.trans ((Ks.of (e2 _)).trans ks4)⟩
        rintro σ H3 ⟨kd, hk, rfl, hs3, ks3⟩
        refine ⟨_, rfl, _, rfl, _, rfl, _, rfl, by show 3 ≤ sizeLine; decide, fun p3 hp3 => ?_⟩
        have e3 := fun o => Same.new (o := o) hp3
        refine ⟨S, p3, _, rfl, Same.src (e3 _) hs3, upd_same, src_ne (o := .lst []) hs3 hp3, by show 0 < 3; decide, by show 3 < 1000000; decide, fun y H4 hy hs4 ks4 => ?_⟩
        obtain ⟨b, rfl⟩ : ∃ b : Int, y = .int b := by
          simp only [List.mem_cons, List.not_mem_nil, or_false] at hy
          rcases hy with rfl | rfl | rfl <;> exact ⟨_, rfl⟩
        refine ⟨by show 4 ≤ sizeLine; decide, fun q hq => ⟨_, rfl, by show 2 ≤ sizeLine; decide, fun e he => ⟨by show 2 ≤ sizeLine; decide, fun t ht => ?_⟩⟩⟩
        have e4 := Same.new (o := .tup (scV ⟨kd, bd, b, 0⟩)) hq
        have e5 := Same.new (o := .tup (tagOf (.line bd))) he
        have e6 := fun o => Same.new (o := o) ht
        have kk := ks3.trans ((Ks.of (e3 _)).trans (ks4.trans (Ks.of ((e4.trans e5).trans (e6 (.tup [.ref q, .ref e]))))))
        exact k t q e ⟨kd, bd, b, 0⟩ (.line bd) _ (Same.src ((e4.trans e5).trans (e6 _)) hs4) kk upd_same ⟨q, rfl, (e5.trans (e6 _)) _ _ upd_same⟩ (e6 _ _ _ upd_same) (bad_line hb hk) rfl
      · refine ⟨_, rfl, S, 2, rfl, hs1, by decide, by decide, fun x H2 x0 x2 hs2 ks2 => ⟨rfl, _, rfl, ?_⟩⟩
        have ks12 := ks1.trans ks2
        refine ite2 (fun _ => ?_) (fun _ => ⟨rfl, hs2, ks12⟩)
        refine ⟨fun σ H' => ∃ kd : Kd, (kd = .st ∨ kd = .fl) ∧ σ = [some (.ref S), some (.ref sz), some (.ref r), some (.int (ns.length : Nat)), some (.int bd), some (.str kd.str), none] ∧ HasSrc S H' ∧ Ks S H H', ?_, ?_⟩
        · refine ⟨_, rfl, by show 2 ≤ sizeLine; decide, fun p2 hp2 => ?_⟩
          have e2 := fun o => Same.new (o := o) hp2
          refine ⟨S, p2, _, rfl, Same.src (e2 _) hs2, upd_same, src_ne (o := .lst []) hs2 hp2, by show 0 < 2; decide, by show 2 < 1000000; decide, fun x H4 hx hs4 ks4 => ?_⟩
          obtain ⟨kd, rfl, hk⟩ : ∃ kd : Kd, x = .str kd.str ∧ (kd = .st ∨ kd = .fl) := by
            simp only [List.mem_cons, List.not_mem_nil, or_false] at hx
            rcases hx with rfl | rfl
            · exact ⟨.st, rfl, .inl rfl⟩
            · exact ⟨.fl, rfl, .inr rfl⟩
          exact ⟨kd, hk, rfl, hs4, ks12.trans ((Ks.of (e2 _)).trans ks4)⟩
        rintro σ H3 ⟨kd, hk, rfl, hs3, ks3⟩
        refine ⟨_, rfl, _, rfl, _, rfl, _, rfl, by show 3 ≤ sizeLine; decide, fun p3 hp3 => ?_⟩
        have e3 := fun o => Same.new (o := o) hp3
        refine ⟨S, p3, _, rfl, Same.src (e3 _) hs3, upd_same, src_ne (o := .lst []) hs3 hp3, by show 0 < 3; decide, by show 3 < 1000000; decide, fun y H4 hy hs4 ks4 => ?_⟩
        obtain ⟨b, rfl⟩ : ∃ b : Int, y = .int b := by
          simp only [List.mem_cons, List.not_mem_nil, or_false] at hy
          rcases hy with rfl | rfl | rfl <;> exact ⟨_, rfl⟩
        refine ⟨by show 4 ≤ sizeLine; decide, fun q hq => ⟨_, rfl, by show 2 ≤ sizeLine; decide, fun e he => ⟨by show 2 ≤ sizeLine; decide, fun t ht => ?_⟩⟩⟩
        have e4 := Same.new (o := .tup (scV ⟨kd, bd, b, 0⟩)) hq
        have e5 := Same.new (o := .tup (tagOf (.line bd))) he
        have e6 := fun o => Same.new (o := o) ht
        have kk := ks3.trans ((Ks.of (e3 _)).trans (ks4.trans (Ks.of ((e4.trans e5).trans (e6 (.tup [.ref q, .ref e]))))))
        exact k t q e ⟨kd, bd, b, 0⟩ (.line bd) _ (Same.src ((e4.trans e5).trans (e6 _)) hs4) kk upd_same ⟨q, rfl, (e5.trans (e6 _)) _ _ upd_same⟩ (e6 _ _ _ upd_same) (bad_line hb hk) rfl
    clear hs1 ks1 hr1 hz1
    rintro σ H1 ⟨rfl, hs1, ks1⟩
    have hr1 : H1 r = some (.tup (scV s)) := ks1 _ _ hsp (fun z => by
      obtain ⟨a, b, c, q⟩ := hs
      rw [z, q] at hsp
      cases hsp)
    have hz1 := ks1 _ _ hz nz
    obtain ⟨⟨a0, a1⟩, g2⟩ := hg
    have ea : ((s.a.toNat : Nat) : Int) = s.a := Int.toNat_of_nonneg a0
    have hj : s.a.toNat < ns.length := by omega
    have hget : (ns.map V.int)[s.a.toNat]? = some (.int (ns.getD s.a.toNat 0)) := by simp [List.getD, hj]
    have hat : atI (ns.map V.int) s.a = some (.int (ns.getD s.a.toNat 0)) := by
      have := atI_nat hget
      rw [ea] at this
      exact this
    have hmem : ns.getD s.a.toNat 0 ∈ ns := by
      rw [List.getD_eq_getElem?_getD, List.getElem?_eq_getElem hj]
      exact List.getElem_mem hj
    have hsz := ok.2 _ hmem
    refine ⟨fun σ H' => σ = [some (.ref S), some (.ref sz), some (.ref r), some (.int (ns.length : Nat)), some (.int bd), none, some (.int s.a)] ∧ H' = H1, ?_, ?_⟩
    · exact ⟨_, rfl, r, scV s, 1, _, rfl, rfl, SqT.of hr1, at1, rfl, rfl⟩
    rintro σ H2 ⟨rfl, rfl⟩
    refine ⟨fun σ H' => ∃ bw : Int, (bw < 0 ∨ ns.getD s.a.toNat 0 ≤ bw) ∧ σ = [some (.ref S), some (.ref sz), some (.ref r), some (.int (ns.length : Nat)), some (.int bw), none, some (.int s.a)] ∧ HasSrc S H' ∧ Ks S H H', ?_, ?_⟩
    · refine ⟨_, rfl, _, rfl, _, rfl, _, rfl, sz, _, s.a, _, rfl, rfl, SqL.of hz1, hat, _, rfl, _, rfl, sz, _, s.a, _, rfl, rfl, SqL.of hz1, hat, _, _, rfl, rfl, _, _, rfl, rfl, ⟨by decide, by decide, by decide⟩, by show 5 ≤ sizeLine; decide, fun pl hpl => ?_⟩
      have e1 := fun o => Same.new (o := o) hpl
      refine ⟨S, pl, _, rfl, Same.src (e1 _) hs1, upd_same, src_ne (o := .lst []) hs1 hpl, by show 0 < 5; decide, by show 5 < 1000000; decide, fun x H3 hx hs3 ks3 => ?_⟩
      obtain ⟨bw, rfl, hbw⟩ : ∃ bw : Int, x = .int bw ∧ (bw < 0 ∨ ns.getD s.a.toNat 0 ≤ bw) := by
        simp only [List.mem_cons, List.not_mem_nil, or_false] at hx
        rcases hx with rfl | rfl | rfl | rfl | rfl
        · exact ⟨_, rfl, .inl (by decide)⟩
        · exact ⟨_, rfl, .inr (by omega)⟩
        · exact ⟨_, rfl, .inr (by omega)⟩
        · exact ⟨_, rfl, .inl (by omega)⟩
        · exact ⟨_, rfl, .inr (by omega)⟩
      exact ⟨bw, hbw, rfl, hs3, ks1.trans ((Ks.of (e1 _)).trans ks3)⟩
    rintro σ H3 ⟨bw, hbw, rfl, hs3, ks3⟩
    refine ⟨_, rfl, _, rfl, by show 4 ≤ sizeLine; decide, fun q hq => ⟨_, rfl, by show 2 ≤ sizeLine; decide, fun e he => ⟨by show 2 ≤ sizeLine; decide, fun t ht => ?_⟩⟩⟩
    have e4 := Same.new (o := .tup (scV ⟨.st, s.a, bw, 0⟩)) hq
    have e5 := Same.new (o := .tup (tagOf (.word bw))) he
    have e6 := fun o => Same.new (o := o) ht
    have kk := ks3.trans (Ks.of ((e4.trans e5).trans (e6 (.tup [.ref q, .ref e]))))
    exact k t q e ⟨.st, s.a, bw, 0⟩ (.word bw) _ (Same.src ((e4.trans e5).trans (e6 _)) hs3) kk upd_same ⟨q, rfl, (e5.trans (e6 _)) _ _ upd_same⟩ (e6 _ _ _ upd_same) (bad_word ⟨a0, a1⟩ hbw) rfl
end
end Q

namespace Q
open PySem PySem.Spec PyProof.Rows L2 LamX
/-! ### == of commands -/
def isSt : Cmd → Bool
  | .store _ _ _ => true
  | _ => false
def isFl : Cmd → Bool
  | .flush _ => true
  | _ => false
def isFe : Cmd → Bool
  | .fence => true
  | _ => false
def spCmdEq (d : Ad) (k : Cmd → Bool) : Sp := fun vs H Q _ => ∃ a b c e, vs = [.ref a, .ref b] ∧ k c = true ∧ CmdAt d H (.ref a) c ∧ CmdAt d H (.ref b) e ∧ Q (.bl (decide (c = e))) H
structure TFe (K : PySem.W.Frag) (mg : Str → Option Value) (d : Ad) : Prop where
  g : mg "Fence" = some (.ref d.fe)
  k : ∀ c, PySem.W.kitOne K (.ref (d.cls c)) (.ref d.fe) = some (match c with | .fence => true | _ => false)
theorem fin_eq {Q : VK} {H : Hp} {c e : Cmd} (k : Q (.bl (decide (c = e))) H) {b : Bool} (h : decide (c = e) = b) : Q (.bl b) H := by
  rw [h] at k
  exact k
abbrev sStoreE : Stmt := inClass (topS 11) 1
theorem scStoreE : FnScope ["self", "other"] ["self", "other"] (defScope sStoreE) := ⟨rfl, rfl, rfl, by decide +kernel, rfl, by decide +kernel, by decide +kernel⟩
section
variable {P : Program} {w : World} {K : PySem.W.Frag} {mg : Str → Option Value} {base : Heap}
theorem ok_storeE {f : Addr} {d : Ad} {fd : FuncData} (F : Fun K "__eq__" "Store.__eq__" sStoreE f fd) (T : TProg K mg d) : FnOk P w K mg base CX0 1 f fd ["self", "other"] (spCmdEq d isSt) := by
  refine F.ok scStoreE (fun vs H Q E h => ?_) (fun cdv A outer s H vs Q E hr h => ?_)
  · obtain ⟨a, b, c, e, rfl, _⟩ := h
    rfl
  · obtain ⟨a, b, c, e, rfl, kc, ⟨a', dx, z1, ha⟩, ⟨b', dy, z2, hb⟩, k⟩ := h
    cases z1
    cases z2
    refine ⟨_, (pss_one (ps_ret (pe_and (pe_callB call_isi (by rfl) T.b_isi (by decide +kernel) (pa_cons (pv 1) (pa_cons (pe_glob (v := V.ref d.st) rfl T.gSt rfl) pa_nil))) (pe_and (pe_cmpR op_eq (pe_fld (pv 0) rfl) (pe_fld (pv 1) rfl) (nomark _)) (pe_and (pe_cmpR op_eq (pe_fld (pv 0) rfl) (pe_fld (pv 1) rfl) (nomark _)) (pe_one (pe_cmpR op_eq (pe_fld (pv 0) rfl) (pe_fld (pv 1) rfl) (nomark _)))))))), ?_⟩
    refine v_isi (σ := [some (.ref a), some (.ref b)]) (val_var (i := 1) rfl) val_c (T.oc e) hb (T.kS e) _ ?_
    cases c with
    | flush l => cases kc
    | fence => cases kc
    | store l w n =>
    have cl := (T.oc (.store l w n)).cl
    cases e with
    | flush l2 => exact ⟨false, rfl, iteF (fin_eq k (decide_eq_false fun z => by cases z))⟩
    | fence => exact ⟨false, rfl, iteF (fin_eq k (decide_eq_false fun z => by cases z))⟩
    | store l2 w2 n2 =>
      refine ⟨true, rfl, iteT ?_⟩
      refine ⟨_, rfl, a, d.st, dx, _, _, rfl, ha, cl, T.nL, rfl, _, rfl, b, d.st, dy, _, _, rfl, hb, cl, T.nL, rfl, rfl, _, rfl, ?_⟩
      refine ite2 (fun e1 => ?_) (fun e1 => fin_eq k (decide_eq_false fun z => by cases z; exact absurd (decide_eq_true rfl) e1))
      refine ⟨_, rfl, a, d.st, dx, _, _, rfl, ha, cl, T.nW, rfl, _, rfl, b, d.st, dy, _, _, rfl, hb, cl, T.nW, rfl, rfl, _, rfl, ?_⟩
      refine ite2 (fun e2 => ?_) (fun e1 => fin_eq k (decide_eq_false fun z => by cases z; exact absurd (decide_eq_true rfl) e1))
      refine ⟨_, rfl, a, d.st, dx, _, _, rfl, ha, cl, T.nN, rfl, _, rfl, b, d.st, dy, _, _, rfl, hb, cl, T.nN, rfl, rfl, ?_⟩
      have e1' : l = l2 := V.int.inj (of_decide_eq_true e1)
      have e2' : w = w2 := V.int.inj (of_decide_eq_true e2)
      subst e1'
      subst e2'
      refine fin_eq k ?_
      show decide (Cmd.store l w n = Cmd.store l w n2) = decide (V.int n = V.int n2)
      by_cases h : n = n2
      · rw [h, decide_eq_true rfl, decide_eq_true rfl]
      · rw [decide_eq_false (show ¬ V.int n = V.int n2 from fun z => h (V.int.inj z))]
        exact decide_eq_false fun z => by cases z; exact h rfl
end
abbrev sFlushE : Stmt := inClass (topS 12) 1
theorem scFlushE : FnScope ["self", "other"] ["self", "other"] (defScope sFlushE) := ⟨rfl, rfl, rfl, by decide +kernel, rfl, by decide +kernel, by decide +kernel⟩
section
variable {P : Program} {w : World} {K : PySem.W.Frag} {mg : Str → Option Value} {base : Heap}
theorem ok_flushE {f : Addr} {d : Ad} {fd : FuncData} (F : Fun K "__eq__" "Flush.__eq__" sFlushE f fd) (T : TProg K mg d) : FnOk P w K mg base CX0 1 f fd ["self", "other"] (spCmdEq d isFl) := by
  refine F.ok scFlushE (fun vs H Q E h => ?_) (fun cdv A outer s H vs Q E hr h => ?_)
  · obtain ⟨a, b, c, e, rfl, _⟩ := h
    rfl
  · obtain ⟨a, b, c, e, rfl, kc, ⟨a', dx, z1, ha⟩, ⟨b', dy, z2, hb⟩, k⟩ := h
    cases z1
    cases z2
    refine ⟨_, (pss_one (ps_ret (pe_and (pe_callB call_isi (by rfl) T.b_isi (by decide +kernel) (pa_cons (pv 1) (pa_cons (pe_glob (v := V.ref d.fl) rfl T.gFl rfl) pa_nil))) (pe_one (pe_cmpR op_eq (pe_fld (pv 0) rfl) (pe_fld (pv 1) rfl) (nomark _)))))), ?_⟩
    refine v_isi (σ := [some (.ref a), some (.ref b)]) (val_var (i := 1) rfl) val_c (T.oc e) hb (T.kF e) _ ?_
    cases c with
    | store l w n => cases kc
    | fence => cases kc
    | flush l =>
    have cl := (T.oc (.flush l)).cl
    cases e with
    | store l2 w2 n2 => exact ⟨false, rfl, iteF (fin_eq k (decide_eq_false fun z => by cases z))⟩
    | fence => exact ⟨false, rfl, iteF (fin_eq k (decide_eq_false fun z => by cases z))⟩
    | flush l2 =>
      refine ⟨true, rfl, iteT ?_⟩
      refine ⟨_, rfl, a, d.fl, dx, _, _, rfl, ha, cl, T.nFl, rfl, _, rfl, b, d.fl, dy, _, _, rfl, hb, cl, T.nFl, rfl, rfl, ?_⟩
      refine fin_eq k ?_
      show decide (Cmd.flush l = Cmd.flush l2) = decide (V.int l = V.int l2)
      by_cases h : l = l2
      · rw [h, decide_eq_true rfl, decide_eq_true rfl]
      · rw [decide_eq_false (show ¬ V.int l = V.int l2 from fun z => h (V.int.inj z))]
        exact decide_eq_false fun z => by cases z; exact h rfl
end
abbrev sFenceE : Stmt := inClass (topS 13) 0
theorem scFenceE : FnScope ["self", "other"] ["self", "other"] (defScope sFenceE) := ⟨rfl, rfl, rfl, by decide +kernel, rfl, by decide +kernel, by decide +kernel⟩
section
variable {P : Program} {w : World} {K : PySem.W.Frag} {mg : Str → Option Value} {base : Heap}
theorem ok_fenceE {f : Addr} {d : Ad} {fd : FuncData} (F : Fun K "__eq__" "Fence.__eq__" sFenceE f fd) (T : TProg K mg d) (TE : TFe K mg d) : FnOk P w K mg base CX0 1 f fd ["self", "other"] (spCmdEq d isFe) := by
  refine F.ok scFenceE (fun vs H Q E h => ?_) (fun cdv A outer s H vs Q E hr h => ?_)
  · obtain ⟨a, b, c, e, rfl, _⟩ := h
    rfl
  · obtain ⟨a, b, c, e, rfl, kc, ⟨a', dx, z1, ha⟩, ⟨b', dy, z2, hb⟩, k⟩ := h
    cases z1
    cases z2
    refine ⟨_, (pss_one (ps_ret (pe_callB call_isi (by rfl) T.b_isi (by decide +kernel) (pa_cons (pv 1) (pa_cons (pe_glob (v := V.ref d.fe) rfl TE.g rfl) pa_nil))))), ?_⟩
    refine v_isi (σ := [some (.ref a), some (.ref b)]) (val_var (i := 1) rfl) val_c (T.oc e) hb (TE.k e) _ ?_
    cases c with
    | store l w n => cases kc
    | flush l => cases kc
    | fence =>
    cases e with
    | store l2 w2 n2 => exact fin_eq k (decide_eq_false fun z => by cases z)
    | flush l2 => exact fin_eq k (decide_eq_false fun z => by cases z)
    | fence => exact fin_eq k (decide_eq_true rfl)
end
/-- two references to equal commands -/
def DCmd (d : Ad) (k : Cmd → Bool) : Addr → Addr → Hp → Prop := fun a b H => ∃ c, k c = true ∧ CmdAt d H (.ref a) c ∧ CmdAt d H (.ref b) c
/-- the three classes' own == -/
structure TEqs (P : Program) (w : World) (K : PySem.W.Frag) (mg : Str → Option Value) (base : Heap) (d : Ad) : Prop where
  st : Dun P w K mg base CX0 d.st "__eq__" 1 ["self", "other"] (spCmdEq d isSt)
  fl : Dun P w K mg base CX0 d.fl "__eq__" 1 ["self", "other"] (spCmdEq d isFl)
  fe : Dun P w K mg base CX0 d.fe "__eq__" 1 ["self", "other"] (spCmdEq d isFe)
theorem eqG_cmd {X : Cx} {d : Ad} {C : Addr} {k : Cmd → Bool} (D : Dun X.prog X.w X.K X.mg X.base CX0 C "__eq__" 1 ["self", "other"] (spCmdEq d k)) : EqG X 1 (DIns C (DCmd d k)) := by
  obtain ⟨f, fd, F, hs, hf, hb⟩ := D.ex
  refine eqG_ins (E := E0) (F.imp fun vs H Q E h => ?_) hs hf hb pass0
  obtain ⟨a, b, rfl, ⟨c, kc, h1, h2⟩, q⟩ := h
  refine ⟨a, b, c, c, rfl, kc, h1, h2, ?_⟩
  rw [decide_eq_true rfl]
  exact q H Ext.rfl'
theorem mon_cmd {d : Ad} {k : Cmd → Bool} {C : Addr} : Mon (DIns C (DCmd d k)) := mon_ins fun a b H H' e h => by
  obtain ⟨c, kc, ⟨p, dx, z1, h1⟩, ⟨q, dy, z2, h2⟩⟩ := h
  exact ⟨c, kc, ⟨p, dx, z1, e _ _ h1⟩, ⟨q, dy, z2, e _ _ h2⟩⟩
/-- commands that are equal, of whatever class -/
def DAny (d : Ad) : Eqv := fun x y H => (DIns d.st (DCmd d isSt) x y H ∨ DIns d.fl (DCmd d isFl) x y H) ∨ DIns d.fe (DCmd d isFe) x y H
theorem mon_any {d : Ad} : Mon (DAny d) := (mon_cmd.or mon_cmd).or mon_cmd
theorem eqG_any {X : Cx} {d : Ad} (T : TEqs X.prog X.w X.K X.mg X.base d) : EqG X 1 (DAny d) := ((eqG_cmd T.st).or (eqG_cmd T.fl)).or (eqG_cmd T.fe)
theorem any_of {d : Ad} {H : Hp} {x y : V} {c : Cmd} (h1 : CmdAt d H x c) (h2 : CmdAt d H y c) : DAny d x y H := by
  obtain ⟨a, dx, rfl, ha⟩ := h1
  obtain ⟨b, dy, rfl, hb⟩ := h2
  cases c with
  | store l w n => exact .inl (.inl ⟨a, b, dx, dy, _, _, rfl, rfl, ha, hb, _, rfl, ⟨a, dx, rfl, ha⟩, ⟨b, dy, rfl, hb⟩⟩)
  | flush l => exact .inl (.inr ⟨a, b, dx, dy, _, _, rfl, rfl, ha, hb, _, rfl, ⟨a, dx, rfl, ha⟩, ⟨b, dy, rfl, hb⟩⟩)
  | fence => exact .inr ⟨a, b, dx, dy, _, _, rfl, rfl, ha, hb, _, rfl, ⟨a, dx, rfl, ha⟩, ⟨b, dy, rfl, hb⟩⟩
/-- what stands in a list of tuples: flat values, tuples of commands -/
def DOk (K : PySem.W.Frag) (d : Ad) : Eqv := fun x y H => DFlat x y H ∨ DTup K (DAny d) x y H
theorem rcG_ok {X : Cx} {d : Ad} (T : TEqs X.prog X.w X.K X.mg X.base d) : RcG X 3 (DTup X.K (DOk X.K d)) :=
  rcG_tup (mon_flat.or (mon_tup mon_any)) ((eqG_flat.mono (by decide)).or (eqG_tup mon_any (eqG_any T)))
end Q

namespace Q
open PySem PySem.Spec PyProof.Rows L2 LamX
abbrev nParts : List Str := ["_law_source_here", "_law_sizes_so", "_law_specs_here", "_law_due", "_law_at", "_law_error", "_law_told", "_law_spec", "_law_many", "_law_long"]
abbrev sParts : Stmt := topS 31
theorem scParts : FnScope nParts ["_law_source_here", "_law_sizes_so"] (defScope sParts) := ⟨rfl, rfl, rfl, by decide +kernel, rfl, by decide +kernel, by decide +kernel⟩
def spParts (T : List (Addr × Str)) : Sp := fun vs H Q _ => ∃ (S sz : Addr) (ns : List Int), vs = [.ref S, .ref sz] ∧ HasSrc S H ∧ H sz = some (.lst (ns.map V.int)) ∧ sz ≠ S ∧ SizesOk ns ∧ Tabs T H ∧ ∀ H', Now T S H H' → Q (.bl true) H'
structure TParts (mg : Str → Option Value) : Prop where
  b_range : mg "range" = none
  b_len : mg "len" = none
  b_tuple : mg "tuple" = none
section
variable {P : Program} {w : World} {K : PySem.W.Frag} {mg : Str → Option Value} {base : Heap}
theorem ok_parts {f c Pt CS CO gOa : Addr} {oc kV doc pm ct : Value} {od an : Option Addr} {osl : Array (Option Value)} {fdO : FuncData} {d : Ad} {T : List (Addr × Str)} (lk : K.lookup f = some ⟨oc, od, .func (PySem.W.fnOf "_law_parts_right" "_law_parts_right" (defArgs sParts) (defBody sParts) (defScope sParts) .none kV doc pm an (.ref c) ct), osl⟩) (hcd : PySem.W.codeIn K (.ref c) "_law_parts_right" = true)
    (TB : TabB base mg c Pt) (hmT : (Pt, (("_law_parts_right" : Str) ++ ".<locals>.") ++ "<lambda>") ∈ T) (hu : ∀ p ∈ T, p.1 = Pt → p.2 = (("_law_parts_right" : Str) ++ ".<locals>.") ++ "<lambda>") (TT : TParts mg) (TP : TProg K mg d) (TQ : TEqs P w K mg base d) (FD : Cal P w K mg base CX0 "_law_draw" 1 ["_law_source_here", "_law_many"] spDraw) (FP : Cal P w K mg base CX0 "_law_pick" 2 ["_law_source_here", "_law_items"] (spPick K))
    (FS : Cal P w K mg base CX0 "_law_specs" 4 ["_law_source_here", "_law_sizes_so", "_law_least", "_law_most"] spSpecs) (FB : Cal P w K mg base CX0 "_law_bent" 3 ["_law_source_here", "_law_sizes_so", "_law_spec"] spBent) (FC : Cal P w K mg base CX0 "_law_command" 3 ["_law_spec"] (spCommand d))
    (FG : Cal P w K mg base (L2.CX P w) "_law_program" 9 ["_law_sizes_so", "_law_specs_here"] (spProgramX d)) (FO : Fun K "_law_outcome" "_law_outcome" sOut gOa fdO) (gO : mg "_law_outcome" = some (.ref gOa)) (bO : Binds K fdO ["_law_call"] []) (TO : TOutc P w K mg base d CO CS) :
    FnOk P w K mg base CX0 12 f (PySem.W.fnOf "_law_parts_right" "_law_parts_right" (defArgs sParts) (defBody sParts) (defScope sParts) .none kV doc pm an (.ref c) ct) ["_law_source_here", "_law_sizes_so"] (spParts T) := by
  obtain ⟨ocO, odO, kVO, docO, pmO, anO, cdvO, ctO, oslO, rfl, lkO, hcO⟩ := FO.ex
  refine fn_of lk hcd scParts (fun vs H Q E h => ?_) (fun A outer s H0 vs Q E hr h => ?_)
  · obtain ⟨S, sz, ns, rfl, _⟩ := h
    rfl
  · obtain ⟨S, sz, ns, rfl, hs0, hz0, nz, ok, tb0, k⟩ := h
    refine (fun (x : ∃ t, PSs (cxOf CX0 P w K mg base nParts "_law_parts_right" (defScope sParts) f (.ref c) A outer s H0 E).nox (defBody sParts) t ∧ t { nx := fun _ H' => Q .non H', rt := Q } (start nParts [.ref S, .ref sz]) H0) => by
      obtain ⟨t, a, b⟩ := x
      exact ⟨t, a.nox, b⟩) ?_
    refine ⟨_, (Evl.pss_cut (ps_set (i := 2) scParts.nd rfl (Or.inr rfl) (pe_cal FS (hr.mono (by decide)) (by rfl) pass0 (pa_cons (pv 0) (pa_cons (pv 1) (pa_cons pe_int (pa_cons pe_int pa_nil))))))
    (Evl.pss_cut (ps_set (i := 3) scParts.nd rfl (Or.inl rfl) pe_non)
    (Evl.pss_cut (ps_for PassesOwn.never rfl (pi_range1 (by rfl) TT.b_range (pa_cons (pe_callB call_len_seq (by rfl) TT.b_len (by decide +kernel) (pa_cons (pv 2) pa_nil)) pa_nil)) (pg_name (i := 4) scParts.nd rfl (Or.inl rfl)) (pss_one (ps_if (pt_cmpR op_eq (pe_cal FD (hr.mono (by decide)) (by rfl) pass0 (pa_cons (pv 0) (pa_cons pe_int pa_nil))) pe_int (nomark _)) (Evl.pss_cut (ps_asg (pe_cal FB (hr.mono (by decide)) (by rfl) pass0 (pa_cons (pv 0) (pa_cons (pv 1) (pa_cons (pe_ix ix_list (pv 2) (pv 4) (fun _ _ => rfl)) pa_nil)))) (pg_tup (by rfl) (pgs_cons (pg_sub (pv 2) (pv 4) set_list) (pgs_cons (pg_name (i := 5) scParts.nd rfl (Or.inl rfl)) pgs_nil))))
    (pss_one (ps_set (i := 3) scParts.nd rfl (Or.inl rfl) (pe_orN (pv 3) (pe_one (pv 5)))))) pss_nil)))
    (Evl.pss_cut (ps_set (i := 6) scParts.nd rfl (Or.inl rfl) (pe_lamS (T := T) rfl gO FO.kp lkO hcO bO scOut rfl (Or.inl rfl) (gives_out TO (hr.mono (by decide))) TB rfl hmT hu (k := 9) (hr.mono (by decide)) (lamS_by (sc := defScope sParts) (by decide +kernel)) rfl (fun _ _ _ _ _ => rfl)
      (t := fun E => tFld K (tCall (spProgramX d) [] E (tCons (tVar 1) (tCons (tVar 2) tNil))) "commands")
      (fun E A outer s H f c' hr2 => pe_fld (pe_cal FG (hr2.mono (by decide)) (by rfl) (passes_call (takes_of rfl rfl rfl rfl) (fun _ _ _ _ h => h)) (pa_cons (pv 1) (pa_cons (pv 2) pa_nil))) rfl)))
    (Evl.pss_cut (ps_if (pt_cmpR op_isN (pv 3) pe_non (nomark _)) (pss_one (ps_ret (pe_cmpR (op_eqG (rcG_ok TQ) (hr.mono (by decide))) (pv 6) (pe_tup (pa_cons pe_str (pa_cons (pe_callTy call_tuple_of (by rfl) TT.b_tuple (by decide +kernel) (pa_cons (pe_lc (own := [("_law_spec", 7)]) (g := gName 7) (tt := tYes) (by rfl) scParts.nd (pi_list (pv 2)) (blkOk_by (own := [("_law_spec", 7)]) (N := nParts) (sc := defScope sParts) (by decide +kernel)) (fun _ _ _ _ _ => (pg_name (i := 7) scParts.nd rfl (Or.inl rfl))) (fun _ _ _ _ _ => pts_nil) (fun _ _ _ _ _ => (pe_cal FC (hr.mono (by decide)) (by rfl) pass0 (pa_cons (pv 7) pa_nil)))) pa_nil)) pa_nil))) (nomark _)))) pss_nil)
    (Evl.pss_cut (ps_set (i := 8) scParts.nd rfl (Or.inl rfl) (pe_cal FP (hr.mono (by decide)) (by rfl) pass0 (pa_cons (pv 0) (pa_cons (pe_lst (pa_cons pe_int (pa_cons pe_int (pa_cons pe_int pa_nil)))) pa_nil))))
    (Evl.pss_cut (ps_set (i := 9) scParts.nd rfl (Or.inr rfl) (pe_slice sl_list (pe_op op_rep (pv 2) (pv 8)) po_none (po_some (pv 8))))
    (pss_one (ps_ret (pe_and (pe_cmpR (op_eqD hr.units) (pv 6) (pv 3) (nomark _)) (pe_one (pe_cmpR (op_eqD hr.units) (pe_lamS (T := T) rfl gO FO.kp lkO hcO bO scOut rfl (Or.inl rfl) (gives_out TO (hr.mono (by decide))) TB rfl hmT hu (k := 9) (hr.mono (by decide)) (lamS_by (sc := defScope sParts) (by decide +kernel)) rfl (fun _ _ _ _ _ => rfl)
      (t := fun E => tCall (spProgramX d) [] E (tCons (tVar 1) (tCons (tVar 9) tNil)))
      (fun E A outer s H f c' hr2 => pe_cal FG (hr2.mono (by decide)) (by rfl) (passes_call (takes_of rfl rfl rfl rfl) (fun _ _ _ _ h => h)) (pa_cons (pv 1) (pa_cons (pv 9) pa_nil)))) (pe_tup (pa_cons pe_str (pa_cons pe_str (pa_cons (pv 8) pa_nil)))) (nomark _))))))))))))), ?_⟩
    have n0 : Now T S H0 H0 := ⟨Kp.refl S H0, hs0, tb0⟩
    have kz : ∀ H, Now T S H0 H → H sz = some (.lst (ns.map V.int)) := fun H n => n.kp _ _ hz0 nz (fun ps z => by cases z)
    -- the commands
    refine ⟨fun σ H => ∃ (sp : Addr) (ss : List Sc), σ = [some (.ref S), some (.ref sz), some (.ref sp), none, none, none, none, none, none, none] ∧ Now T S H0 H ∧ Specs H sp ss ∧ sp ≠ S ∧ NoO H0 sp ∧ (∀ s ∈ ss, Good ns s) ∧ 1 ≤ ss.length ∧ ss.length ≤ 12, ?_, ?_⟩
    · refine ⟨_, rfl, _, rfl, S, sz, ns, 1, 12, rfl, hs0, hz0, nz, ok, by decide, by decide, by decide, fun sp ss H1 hs1 ks1 hS n2 hf hg l1 l2 => ?_⟩
      exact ⟨sp, ss, rfl, n0.ks ks1 hs1, hS, n2, (fun o q => by rw [hf] at q; cases q), hg, by omega, by omega⟩
    rintro σ H ⟨sp, ss0, rfl, n, hS, n2, no2, hg, l1, l12⟩
    generalize hln : ss0.length = ln at l1 l12
    have fr : ∀ {H1 H2 : Hp} {o : HO} {xs : List V}, Now T S H0 H1 → H1 sp = some (.lst xs) → Now T S H0 (upd H1 sp o) := fun m h => m.mut h no2 n2
    -- none due
    refine ⟨fun σ H => σ = [some (.ref S), some (.ref sz), some (.ref sp), some .non, none, none, none, none, none, none] ∧ Now T S H0 H ∧ Specs H sp ss0, ⟨rfl, n, hS⟩, ?_⟩
    clear n hS
    rintro σ H ⟨rfl, n, hS⟩
    -- some are bent
    refine ⟨fun σ H => ∃ (ts : List Sc) (due : Option PErr) (dv : V), (∃ v4 v5 : Option V, σ = [some (.ref S), some (.ref sz), some (.ref sp), some dv, v4, v5, none, none, none, none]) ∧ Due H dv due ∧ Now T S H0 H ∧ Specs H sp ts ∧ ts.length = ln ∧ (cmds ts).findSome? (cmdErr ns) = due ∧ (∀ e, due = some e → isLW e = true), ?_, ?_⟩
    · obtain ⟨vs, hv, hA⟩ := id hS
      have hlv := hA.1
      refine ⟨_, rfl, sp, vs, rfl, .inl (SqL.of hv), _, rfl, by omega, by omega, ?_⟩
      refine for_range (lo := 0) (n := ((vs.length : Nat) : Int).toNat) (fun i σ H => ∃ (ts : List Sc) (due : Option PErr) (dv : V), (∃ v4 v5 : Option V, σ = [some (.ref S), some (.ref sz), some (.ref sp), some dv, v4, v5, none, none, none, none]) ∧ Due H dv due ∧ Now T S H0 H ∧ Specs H sp ts ∧ ts.length = ln ∧ (cmds (ts.take i)).findSome? (cmdErr ns) = due ∧ (∀ e, due = some e → isLW e = true) ∧ (∀ (j : Nat) s, i ≤ j → ts[j]? = some s → Good ns s))
        ⟨ss0, none, .non, ⟨_, _, rfl⟩, rfl, n, hS, hln, rfl, (fun e z => by cases z), fun j s _ h => hg s (List.mem_of_getElem? h)⟩ ?_ ?_
      · clear n hS hv hA
        rintro t σ H ht ⟨ts, due, dv, ⟨v4, v5, rfl⟩, hd, n, ⟨vs2, hv, hA⟩, hlt, hf, hlw, hgt⟩
        have htl : t < ts.length := by omega
        have ez : ((0 : Int) + (t : Int)) = (t : Int) := Int.zero_add _
        rw [ez]
        obtain ⟨s, hst⟩ : ∃ s, ts[t]? = some s := ⟨_, List.getElem?_eq_getElem htl⟩
        have hgs := hgt t s (Nat.le_refl _) hst
        obtain ⟨v, hvt, hsv⟩ := hA.get' hst
        have hi2 : t < vs2.length := (List.getElem?_eq_some_iff.mp hvt).1
        refine g_name ?_
        refine ⟨_, rfl, S, 4, rfl, n.hs, by decide, by decide, fun x H1 x0 x4 hs1 ks1 => ⟨rfl, _, rfl, ?_⟩⟩
        have n1 := n.ks ks1 hs1
        have ke1 := Ke.ks n.hs ks1
        have hv1 := ks1 _ _ hv n2
        have hA1 := hA.mono fun v c q => q.ke ke1
        have hd1 := hd.ke ke1
        refine ite2 (fun _ => ?_) (fun _ => ?_)
        · refine ⟨fun σ H => ∃ (e : Addr) (er : PErr) (s' : Sc), σ = [some (.ref S), some (.ref sz), some (.ref sp), some dv, some (.int (t : Int)), some (.ref e), none, none, none, none] ∧ H e = some (.tup (tagOf er)) ∧ cmdErr ns s'.cmd = some er ∧ isLW er = true ∧ Due H dv due ∧ Now T S H0 H ∧ Specs H sp (ts.set t s'), ?_, ?_⟩
          · refine ⟨_, rfl, _, rfl, _, rfl, _, rfl, sp, vs2, (t : Int), _, rfl, rfl, SqL.of hv1, atI_nat hvt, S, sz, _, ns, s, rfl, hs1, kz _ n1, nz, ok, hsv.ke ke1, hgs, fun r q e s' er H2 hs2 ks2 hr hq he hce hw => ?_⟩
            have n2' := n1.ks ks2 hs2
            have ke2 := Ke.ks hs1 ks2
            have hv2 := ks2 _ _ hv1 n2
            have k5 := Ke.lst (o := .lst (vs2.set t (.ref q))) hv2
            refine ⟨r, _, rfl, SqT.of hr, rfl, _, _, rfl, _, rfl, _, rfl, sp, vs2, (t : Int), t, rfl, rfl, hv2, Evl.ixN_nat hi2, _, _, rfl, rfl, e, er, s', rfl, k5 _ _ he (fun _ z => by cases z) (fun _ z => by cases z), hce, hw, (hd1.ke ke2).ke k5, fr (H2 := H2) n2' hv2, _, upd_same, ?_⟩
            exact ((hA1.mono fun v c q => q.ke ke2).mono fun v c q => q.ke k5).set (hq.ke k5)
          clear hs1 ks1 n1 ke1 hv1 hA1 hd1 hv hA hd n
          rintro σ H2 ⟨e, er, s', rfl, he, hce, hw, hd, n, hS⟩
          have hset : (ts.set t s')[t]? = some s' := List.getElem?_set_self htl
          have htk : (ts.set t s').take (t + 1) = ts.take t ++ [s'] := by
            rw [take_snoc hset, List.take_set_of_le (Nat.le_refl _)]
          have hg2 : ∀ (j : Nat) z, t + 1 ≤ j → (ts.set t s')[j]? = some z → Good ns z := fun j z hj hz => by
            rw [List.getElem?_set_ne (by omega)] at hz
            exact hgt j z (by omega) hz
          have hl2 : (ts.set t s').length = ln := by rw [List.length_set]; exact hlt
          refine ⟨_, rfl, ?_⟩
          cases due with
          | none =>
            cases hd
            refine .inl ⟨rfl, _, rfl, ts.set t s', some er, .ref e, ⟨_, _, rfl⟩, ⟨e, rfl, he⟩, n, hS, hl2, ?_, (fun e z => by cases z; exact hw), hg2⟩
            rw [htk, cmds_snoc, find_snoc, hf, hce]
            rfl
          | some e0 =>
            obtain ⟨p, rfl, hp⟩ := hd
            obtain ⟨y, ys, hy⟩ := tag_cons e0
            refine .inr ⟨p, y, ys, rfl, by rw [← hy]; exact hp, ts.set t s', some e0, .ref p, ⟨_, _, rfl⟩, ⟨p, rfl, hp⟩, n, hS, hl2, ?_, hlw, hg2⟩
            rw [htk, cmds_snoc, find_snoc, hf]
            rfl
        · refine ⟨ts, due, dv, ⟨_, _, rfl⟩, hd1, n1, ⟨vs2, hv1, hA1⟩, hlt, ?_, hlw, fun j z hj hz => hgt j z (by omega) hz⟩
          rw [take_snoc hst, cmds_snoc, find_snoc, hf, hgs.ok, Option.or_none]
      · rintro σ H ⟨ts, due, dv, hσ, hd, n, hS, hlt, hf, hlw, _⟩
        rw [show ((vs.length : Nat) : Int).toNat = ts.length by omega, List.take_length] at hf
        exact ⟨ts, due, dv, hσ, hd, n, hS, hlt, hf, hlw⟩
    clear n hS hg hln ss0
    rintro σ H ⟨ts, due, dv, ⟨v4, v5, rfl⟩, hd, n, hS, hlt, hf, hlw⟩
    have hcl : (cmds ts).length = ln := by rw [cmds_len]; exact hlt
    have hpe : progErr ns (cmds ts) = due := by rw [prog_short (by omega)]; exact hf
    cases due with
    | none =>
      cases hd
      -- the program is made
      refine ⟨fun σ H => ∃ q, (∃ v4 v5 : Option V, σ = [some (.ref S), some (.ref sz), some (.ref sp), some .non, v4, v5, some (.ref q), none, none, none]) ∧ Now T S H0 H ∧ Specs H sp ts ∧ (∃ c vs, H q = some (.tup [.str "ok", .ref c]) ∧ H c = some (.tup vs) ∧ All2 (CmdAt d H) vs (cmds ts)), ?_, ?_⟩
      · refine ⟨n.tb, fun H1 eN T1 E' R' hE hO hR => ?_⟩
        have n1 := n.ext eN T1
        have hS1 := hS.ext eN
        refine ⟨_, rfl, _, rfl, sz, sp, ns, ts, rfl, kz _ n1, ok, hS1, by omega, fun e z => ?_, fun _ pg H2 e2 hP => ?_⟩
        · rw [hpe] at z
          cases z
        · obtain ⟨dx, m, t, vs, hp, hm, ht, hA⟩ := hP
          refine ⟨pg, d.pr, dx, _, _, rfl, hp, TP.cP, TP.nCo, rfl, hR _ _ fun p hp => ?_⟩
          exact ⟨p, ⟨_, _, rfl⟩, (n1.same e2).new hp, (hS1.same e2).same (Same.new hp), t, vs, upd_same, Same.new hp _ _ ht, hA.mono fun v c q => q.ke (Ke.same (Same.new hp))⟩
      clear n hS
      rintro σ H ⟨q, ⟨v4, v5, rfl⟩, n, ⟨vs, hv, hB⟩, c, cs, hq, hc, hA⟩
      refine ⟨fun _ _ => False, ?_, fun _ _ z => z.elim⟩
      refine ⟨_, rfl, rfl, _, rfl, ?_⟩
      refine ite2 (fun _ => ?_) (fun z => absurd (decide_eq_true rfl) z)
      refine ⟨_, rfl, _, rfl, sp, rfl, ⟨_, SqL.of hv⟩, fun Dl hD => ?_⟩
      refine lc_list (K := K) (a := sp) (xs := vs) (fun i H' => ∃ xs, H' Dl = some (.lst xs) ∧ All2 (CmdAt d H') xs (cmds (ts.take i)) ∧ Same H H') ⟨[], upd_same, .nil, Same.new hD⟩ (fun i H' _ h => SqL.of (by obtain ⟨_, _, _, e⟩ := h; exact e _ _ hv)) ?_ ?_
      · rintro i v H2 hi ⟨xs, hx, hC, e2⟩
        obtain ⟨s, hs, hsv⟩ := hB.get hi
        have hil : i < ts.length := (List.getElem?_eq_some_iff.mp hs).1
        refine g_name ⟨rfl, lc_yes ?_⟩
        refine ⟨_, rfl, v, s, rfl, hsv.ke (Ke.same e2), fun x H3 e3 hx3 => ?_⟩
        have hx4 := e3 _ _ hx
        have k5 := Ke.lst (o := .lst (xs ++ [.ref x])) hx4
        refine ⟨xs, hx4, small1000 (by rw [hC.1, cmds_len, List.length_take]; omega), xs ++ [.ref x], upd_same, ?_, Same.mut (e2.trans e3) hD⟩
        rw [take_snoc hs, cmds_snoc]
        exact All2.snoc (hC.mono fun v c q => q.ke ((Ke.same e3).trans k5)) (hx3.ke k5)
      · rintro H2 ⟨xs, hx, hC, e2⟩
        rw [hB.1, List.take_length] at hC
        refine ⟨Dl, xs, rfl, .inl ⟨SqL.of hx, fun l hl => ⟨by show 2 ≤ sizeLine; decide, fun p hp => ?_⟩⟩⟩
        have e3 := Same.new (o := .tup xs) hl
        have e4 := Same.new (o := .tup [.str "ok", .ref l]) hp
        have eall := e2.trans (e3.trans e4)
        refine ⟨⟨q, p, _, _, rfl, rfl, SqT.of (eall _ _ hq), SqT.of upd_same, .cons (.inl ⟨rfl, rfl, rfl⟩) (.cons (.inr ⟨c, l, cs, xs, rfl, rfl, SqT.of (eall _ _ hc), SqT.of (e4 _ _ upd_same), hA.1.trans hC.1.symm, fun i x y h1 h2 => ?_⟩) .nil)⟩, fun H' e5 => k H' (n.same (eall.trans e5))⟩
        obtain ⟨c1, g1, g2⟩ := hA.get h1
        obtain ⟨c2, g3, g4⟩ := hC.get h2
        rw [g1] at g3
        cases g3
        exact any_of (g2.ke (Ke.same eall)) (g4.ke (Ke.same (e3.trans e4)))
    | some e0 =>
      obtain ⟨dq, rfl, hdq⟩ := hd
      have hw := hlw e0 rfl
      -- the error is told
      refine ⟨fun σ H => ∃ q, (∃ v4 v5 : Option V, σ = [some (.ref S), some (.ref sz), some (.ref sp), some (.ref dq), v4, v5, some (.ref q), none, none, none]) ∧ Now T S H0 H ∧ Specs H sp ts ∧ H q = some (.tup (tagOf e0)) ∧ H dq = some (.tup (tagOf e0)), ?_, ?_⟩
      · refine ⟨n.tb, fun H1 eN T1 E' R' hE hO hR => ?_⟩
        have n1 := n.ext eN T1
        have hS1 := hS.ext eN
        have hd1 := eN _ _ hdq (fun ps z => by cases z)
        refine ⟨_, rfl, _, rfl, sz, sp, ns, ts, rfl, kz _ n1, ok, hS1, by omega, fun e z H2 e2 x hx => ?_, fun z => ?_⟩
        · rw [hpe] at z
          cases z
          have e3 := Same.new (o := .xd (errFs e0)) hx
          refine hE e0 x _ (by cases e0 <;> first | rfl | cases hw) upd_same fun p hp => ?_
          have eall := e2.trans (e3.trans (Same.new (o := .tup (tagOf e0)) hp))
          exact ⟨p, ⟨_, _, rfl⟩, n1.same eall, hS1.same eall, upd_same, eall _ _ hd1⟩
        · rw [hpe] at z
          cases z
      clear n hS hdq
      rintro σ H ⟨q, ⟨v4, v5, rfl⟩, n, hS, hq, hdq⟩
      refine ⟨fun σ H' => σ = [some (.ref S), some (.ref sz), some (.ref sp), some (.ref dq), v4, v5, some (.ref q), none, none, none] ∧ H' = H, ?_, ?_⟩
      · refine ⟨_, rfl, rfl, _, rfl, ?_⟩
        exact ite2 (fun z => by cases (of_decide_eq_true z)) (fun _ => ⟨rfl, rfl⟩)
      rintro σ H1 ⟨rfl, rfl⟩
      -- how many
      refine ⟨fun σ H => ∃ m : Nat, (200 < m ∧ m ≤ 300) ∧ σ = [some (.ref S), some (.ref sz), some (.ref sp), some (.ref dq), v4, v5, some (.ref q), none, some (.int (m : Int)), none] ∧ Now T S H0 H ∧ Specs H sp ts ∧ H q = some (.tup (tagOf e0)) ∧ H dq = some (.tup (tagOf e0)), ?_, ?_⟩
      · refine ⟨_, rfl, by show 3 ≤ sizeLine; decide, fun p hp => ?_⟩
        have e1 := fun o => Same.new (o := o) hp
        refine ⟨S, p, _, rfl, Same.src (e1 _) n.hs, upd_same, n.noS hp, by decide, by decide, fun x H2 hx hs2 ks2 => ?_⟩
        have m1 := (n.same (e1 _)).ks ks2 hs2
        have ke : Ke H1 H2 := (Ke.same (e1 _)).trans (Ke.ks (Same.src (e1 _) n.hs) ks2)
        have hS2 : Specs H2 sp ts := (hS.same (e1 _)).ks (Same.src (e1 _) n.hs) n2 ks2
        have hq2 := ke _ _ hq (fun _ z => by cases z) (fun _ z => by cases z)
        have hd2 := ke _ _ hdq (fun _ z => by cases z) (fun _ z => by cases z)
        simp only [List.mem_cons, List.not_mem_nil, or_false] at hx
        rcases hx with rfl | rfl | rfl
        · exact ⟨201, ⟨by decide, by decide⟩, rfl, m1, hS2, hq2, hd2⟩
        · exact ⟨202, ⟨by decide, by decide⟩, rfl, m1, hS2, hq2, hd2⟩
        · exact ⟨300, ⟨by decide, by decide⟩, rfl, m1, hS2, hq2, hd2⟩
      clear n hS hq hdq
      rintro σ H ⟨m, ⟨m0, m1⟩, rfl, n, ⟨vs, hv, hA⟩, hq, hdq⟩
      -- the long list
      refine ⟨fun σ H => ∃ (lg : Addr) (ls : List Sc), ls.length = m ∧ σ = [some (.ref S), some (.ref sz), some (.ref sp), some (.ref dq), v4, v5, some (.ref q), none, some (.int (m : Int)), some (.ref lg)] ∧ Now T S H0 H ∧ Specs H lg ls ∧ H q = some (.tup (tagOf e0)) ∧ H dq = some (.tup (tagOf e0)), ?_, ?_⟩
      · have hvl : vs.length = ln := by rw [hA.1]; exact hlt
        have hbig : vs.length * ((m : Nat) : Int).toNat ≤ sizeLine := by
          rw [hvl, Int.toNat_natCast, sizeLine_eq]
          have : ln * m ≤ 12 * 300 := Nat.mul_le_mul l12 m1
          omega
        refine ⟨_, rfl, _, rfl, sp, (m : Int), vs, rfl, rfl, hv, by omega, by omega, hbig, fun z hz => ?_⟩
        have e1 := fun o => Same.new (o := o) hz
        refine ⟨_, rfl, (m : Int), rfl, z, _, rfl, SqL.of upd_same, fun u hu => ?_⟩
        rw [cut_to, Int.toNat_natCast]
        have e2 := fun o => Same.new (o := o) hu
        have eall := (e1 (.lst (List.replicate m vs).flatten)).trans (e2 (.lst ((List.replicate m vs).flatten.take m)))
        refine ⟨u, (List.replicate m ts).flatten.take m, ?_, rfl, n.same eall, ⟨_, upd_same, ((hA.rep m).take m).mono fun v c q => q.ke (Ke.same eall)⟩, eall _ _ hq, eall _ _ hdq⟩
        rw [List.length_take, rep_len, hlt]
        have : m * 1 ≤ m * ln := Nat.mul_le_mul_left m l1
        omega
      clear n hv hA hq hdq vs
      rintro σ H ⟨lg, ls, hls, rfl, n, hS, hq, hdq⟩
      -- both are told as they are due
      refine ⟨_, rfl, _, rfl, _, _, dp_tag hq, dp_tag hdq, tag_shaped hw, tag_shaped hw, _, rfl, ?_⟩
      rw [eqv_same (tag_shaped hw)]
      refine iteT ?_
      refine ⟨n.tb, fun H1 eN T1 E' R' hE hO hR => ?_⟩
      have n1 := n.ext eN T1
      have hpl : progErr ns (cmds ls) = some (.count "commands" (m : Int)) := by
        have := prog_long (ns := ns) (cs := cmds ls) (by rw [cmds_len]; omega)
        rw [cmds_len, hls] at this
        exact this
      refine ⟨_, rfl, _, rfl, sz, lg, ns, ls, rfl, kz _ n1, ok, hS.ext eN, by omega, fun e z H2 e2 x hx => ?_, fun z => ?_⟩
      · rw [hpl] at z
        cases z
        have e3 := Same.new (o := .xd (errFs (.count "commands" (m : Int)))) hx
        refine hE (.count "commands" (m : Int)) x _ rfl upd_same fun p hp => ?_
        have e4 := Same.new (o := .tup (tagOf (.count "commands" (m : Int)))) hp
        refine ⟨_, rfl, by show 3 ≤ sizeLine; decide, fun p2 hp2 => ?_⟩
        have e5 := Same.new (o := .tup (tagOf (.count "commands" (m : Int)))) hp2
        refine ⟨_, _, dp_tag (e5 _ _ upd_same), dp_tag (e := .count "commands" (m : Int)) upd_same, cmds_shaped _, cmds_shaped _, ?_⟩
        rw [eqv_same (cmds_shaped _)]
        exact k _ (n1.same (((e2.trans e3).trans e4).trans e5))
      · rw [hpl] at z
        cases z
end
end Q

namespace Q
open PySem PySem.Spec PyProof.Rows L2 LamX
abbrev nRight : List Str := ["_law_source_here", "_law_sizes_so", "_law_k", "_law_others", "_law_left", "_law_one", "_law_other", "_law_many", "_law_strange", "_law_due", "_law_more"]
abbrev sRight : Stmt := topS 32
theorem scRight : FnScope nRight ["_law_source_here"] (defScope sRight) := ⟨rfl, rfl, rfl, by decide +kernel, rfl, by decide +kernel, by decide +kernel⟩
def tBare (C : Addr) : TE := fun _ H Q => ∀ y dx, H y = none → H dx = none → dx ≠ y → Q (.ref y) (upd (upd H dx (.own y)) y (.ins C dx []))
def spRight (T : List (Addr × Str)) : Sp := fun vs H Q _ => ∃ S : Addr, vs = [.ref S] ∧ HasSrc S H ∧ Tabs T H ∧ ∀ H', Now T S H H' → Q (.bl true) H'
section
variable {P : Program} {w : World} {K : PySem.W.Frag} {mg : Str → Option Value} {base : Heap}
theorem ok_right {f c Pt CS CO gOa : Addr} {oc kV doc pm ct : Value} {od an : Option Addr} {osl : Array (Option Value)} {fdO : FuncData} {d : Ad} {T : List (Addr × Str)} (lk : K.lookup f = some ⟨oc, od, .func (PySem.W.fnOf "_law_right" "_law_right" (defArgs sRight) (defBody sRight) (defScope sRight) .none kV doc pm an (.ref c) ct), osl⟩) (hcd : PySem.W.codeIn K (.ref c) "_law_right" = true)
    (TB : TabB base mg c Pt) (hmT : (Pt, (("_law_right" : Str) ++ ".<locals>.") ++ "<lambda>") ∈ T) (hu : ∀ p ∈ T, p.1 = Pt → p.2 = (("_law_right" : Str) ++ ".<locals>.") ++ "<lambda>") (TT : TParts mg) (TP : TProg K mg d) (FD : Cal P w K mg base CX0 "_law_draw" 1 ["_law_source_here", "_law_many"] spDraw) (FP : Cal P w K mg base CX0 "_law_pick" 2 ["_law_source_here", "_law_items"] (spPick K))
    (FZ : Cal P w K mg base CX0 "_law_sizes" 2 ["_law_source_here", "_law_most"] spSizes) (FA : Cal P w K mg base CX0 "_law_parts_right" 12 ["_law_source_here", "_law_sizes_so"] (spParts T))
    (FMe : Mak P w K mg base (L2.CX P w) "Memory" d.me 4 ["self", "sizes"] (spMemInit K d.bc d.me)) (FPr : Mak P w K mg base (L2.CX P w) "Program" d.pr 7 ["self", "memory", "commands"] (spProgI d K)) (BF : Bare K mg "Fence" d.fe)
    (DA : Dun P w K mg base (L2.CX P w) d.pr "__add__" 9 ["self", "other"] (spAddX d CO)) (hSF : PySem.W.selfFirst K d.pr = true)
    (FG : Cal P w K mg base (L2.CX P w) "_law_program" 9 ["_law_sizes_so", "_law_specs_here"] (spProgramX d)) (FO : Fun K "_law_outcome" "_law_outcome" sOut gOa fdO) (gO : mg "_law_outcome" = some (.ref gOa)) (bO : Binds K fdO ["_law_call"] []) (TO : TOutc P w K mg base d CO CS) :
    FnOk P w K mg base CX0 13 f (PySem.W.fnOf "_law_right" "_law_right" (defArgs sRight) (defBody sRight) (defScope sRight) .none kV doc pm an (.ref c) ct) ["_law_source_here"] (spRight T) := by
  obtain ⟨ocO, odO, kVO, docO, pmO, anO, cdvO, ctO, oslO, rfl, lkO, hcO⟩ := FO.ex
  refine fn_of lk hcd scRight (fun vs H Q E h => ?_) (fun A outer s H0 vs Q E hr h => ?_)
  · obtain ⟨S, rfl, _⟩ := h
    rfl
  · obtain ⟨S, rfl, hs0, tb0, k⟩ := h
    refine (fun (x : ∃ t, PSs (cxOf CX0 P w K mg base nRight "_law_right" (defScope sRight) f (.ref c) A outer s H0 E).nox (defBody sRight) t ∧ t { nx := fun _ H' => Q .non H', rt := Q } (start nRight [.ref S]) H0) => by
      obtain ⟨t, a, b⟩ := x
      exact ⟨t, a.nox, b⟩) ?_
    refine ⟨_, (Evl.pss_cut (ps_set (i := 1) scRight.nd rfl (Or.inr rfl) (pe_cal FZ (hr.mono (by decide)) (by rfl) pass0 (pa_cons (pv 0) (pa_cons pe_int pa_nil))))
    (Evl.pss_cut (ps_for PassesOwn.never rfl (pi_range1 (by rfl) TT.b_range (pa_cons pe_int pa_nil)) (pg_name (i := 2) scRight.nd rfl (Or.inl rfl)) (pss_one (ps_if (pt_not (pt_val (pe_cal FA (hr.mono (by decide)) (by rfl) pass0 (pa_cons (pv 0) (pa_cons (pv 1) pa_nil))))) (pss_one (ps_ret pe_bl)) pss_nil)))
    (Evl.pss_cut (ps_set (i := 3) scRight.nd rfl (Or.inl rfl) (pe_lst (pa_cons (pe_op op_cat (pe_slice sl_list (pv 1) po_none (po_some (pe_un un_neg pe_int))) (pe_lst (pa_cons (pe_op op_add (pe_op op_mod (pe_ix ix_list (pv 1) (pe_un un_neg pe_int) (fun _ _ => rfl)) pe_int) pe_int) pa_nil))) (pa_cons (pe_slice sl_list (pe_op op_cat (pv 1) (pe_lst (pa_cons pe_int (pa_cons pe_int pa_nil)))) po_none (po_some pe_int)) pa_nil))))
    (Evl.pss_cut (ps_set (i := 4) scRight.nd rfl (Or.inl rfl) (pe_cal FP (hr.mono (by decide)) (by rfl) pass0 (pa_cons (pv 0) (pa_cons (pe_lst (pa_cons pe_int (pa_cons pe_int (pa_cons pe_int (pa_cons pe_int pa_nil))))) pa_nil))))
    (Evl.pss_cut (ps_set (i := 5) scRight.nd rfl (Or.inr rfl) (pe_cal FG (hr.mono (by decide)) (by rfl) passL (pa_cons (pv 1) (pa_cons (pe_op op_rep (pe_lst (pa_cons (pe_tup (pa_cons pe_str (pa_cons pe_int (pa_cons pe_int (pa_cons pe_int pa_nil))))) pa_nil)) (pv 4)) pa_nil))))
    (Evl.pss_cut (ps_if (pt_cmpR (op_neD hr.units) (pe_lamS (T := T) rfl gO FO.kp lkO hcO bO scOut rfl (Or.inl rfl) (gives_out TO (hr.mono (by decide))) TB rfl hmT hu (k := 10) (hr.mono (by decide)) (lamS_by (sc := defScope sRight) (by decide +kernel)) rfl (fun _ _ _ _ _ => rfl)
      (t := fun E => tMake d.pr (spProgI d K) [] E (tCons (tMake d.me (spMemInit K d.bc d.me) [] E (tCons (tVar 1) tNil)) (tCons (tOp rRep (tLst (tCons (tBare d.fe) tNil)) (tC (.int 201))) tNil)))
      (fun E A outer s H f c' hr2 => pe_mak FPr (hr2.mono (by decide)) (by rfl) (passes_call (takes_of rfl rfl rfl rfl) (fun _ _ _ _ h => h)) (pa_cons (pe_mak FMe (hr2.mono (by decide)) (by rfl) (passes_call (takes_of rfl rfl rfl rfl) (fun _ _ _ _ h => h)) (pa_cons (pv 1) pa_nil)) (pa_cons (pe_op op_rep (pe_lst (pa_cons (pe_bare BF (by rfl)) pa_nil)) pe_int) pa_nil)))) (pe_tup (pa_cons pe_str (pa_cons pe_str (pa_cons pe_int pa_nil)))) (nomark _)) (pss_one (ps_ret pe_bl)) pss_nil)
    (Evl.pss_cut (ps_for PassesOwn.never rfl (pi_list (pv 3)) (pg_name (i := 6) scRight.nd rfl (Or.inl rfl)) (pss_one (ps_for PassesOwn.never rfl (pi_list (pe_lst (pa_cons pe_int (pa_cons pe_int pa_nil)))) (pg_name (i := 7) scRight.nd rfl (Or.inl rfl)) (Evl.pss_cut (ps_set (i := 8) scRight.nd rfl (Or.inr rfl) (pe_cal FG (hr.mono (by decide)) (by rfl) passL (pa_cons (pv 6) (pa_cons (pe_op op_rep (pe_lst (pa_cons (pe_tup (pa_cons pe_str (pa_cons pe_int (pa_cons pe_int (pa_cons pe_int pa_nil))))) pa_nil)) (pv 7)) pa_nil))))
    (Evl.pss_cut (ps_set (i := 9) scRight.nd rfl (Or.inl rfl) (pe_tup (pa_cons pe_str (pa_cons (pe_op op_add (pv 4) (pv 7)) pa_nil))))
    (Evl.pss_cut (ps_if (pt_cmpR (op_neD hr.units) (pv 6) (pv 1) (nomark _)) (pss_one (ps_set (i := 9) scRight.nd rfl (Or.inl rfl) (pe_tup (pa_cons pe_str pa_nil)))) (pss_one (ps_if (pt_cmpR op_gt (pe_op op_add (pv 4) (pv 7)) pe_int (nomark _)) (pss_one (ps_set (i := 9) scRight.nd rfl (Or.inl rfl) (pe_tup (pa_cons pe_str (pa_cons pe_str (pa_cons (pe_op op_add (pv 4) (pv 7)) pa_nil)))))) pss_nil)))
    (pss_one (ps_if (pt_cmpR (op_neD hr.units) (pe_lamS (T := T) rfl gO FO.kp lkO hcO bO scOut rfl (Or.inl rfl) (gives_out TO (hr.mono (by decide))) TB rfl hmT hu (k := 10) (hr.mono (by decide)) (lamS_by (sc := defScope sRight) (by decide +kernel)) rfl (fun _ _ _ _ _ => rfl)
      (t := fun E => tCB (rLenK K) (tCons (tFld K (tOp (rPlus d.pr (spAddX d CO) E) (tVar 5) (tVar 8)) "commands") tNil))
      (fun E A outer s H f c' hr2 => pe_callB call_len_seq (by rfl) TT.b_len (by decide +kernel) (pa_cons (pe_fld (pe_op (op_addO DA hSF (hr2.mono (by decide)) (passes_call (takes_of rfl rfl rfl rfl) (fun _ _ _ _ h => h))) (pv 5) (pv 8)) rfl) pa_nil))) (pv 9) (nomark _)) (pss_one (ps_ret pe_bl)) pss_nil))))))))
    (Evl.pss_cut (ps_for PassesOwn.never rfl (pi_list (pe_lst (pa_cons (pe_op op_sub pe_int (pv 4)) (pa_cons (pe_op op_sub pe_int (pv 4)) (pa_cons pe_int pa_nil))))) (pg_name (i := 10) scRight.nd rfl (Or.inr rfl)) (Evl.pss_cut (ps_set (i := 9) scRight.nd rfl (Or.inl rfl) (pe_ifExp (pt_cmpR op_le (pe_op op_add (pv 4) (pv 10)) pe_int (nomark _)) (pe_tup (pa_cons pe_str (pa_cons (pe_op op_add (pv 4) (pv 10)) pa_nil))) (pe_tup (pa_cons pe_str (pa_cons pe_str (pa_cons (pe_op op_add (pv 4) (pv 10)) pa_nil))))))
    (pss_one (ps_if (pt_cmpR (op_neD hr.units) (pe_lamS (T := T) rfl gO FO.kp lkO hcO bO scOut rfl (Or.inl rfl) (gives_out TO (hr.mono (by decide))) TB rfl hmT hu (k := 10) (hr.mono (by decide)) (lamS_by (sc := defScope sRight) (by decide +kernel)) rfl (fun _ _ _ _ _ => rfl)
      (t := fun E => tCB (rLenK K) (tCons (tFld K (tOp (rPlus d.pr (spAddX d CO) E) (tVar 5) (tCall (spProgramX d) [] E (tCons (tVar 1) (tCons (tOp rRep (tLst (tCons (tTup (tCons (tC (.str "fence")) (tCons (tC (.int 0)) (tCons (tC (.int 0)) (tCons (tC (.int 0)) tNil))))) tNil)) (tVar 10)) tNil)))) "commands") tNil))
      (fun E A outer s H f c' hr2 => pe_callB call_len_seq (by rfl) TT.b_len (by decide +kernel) (pa_cons (pe_fld (pe_op (op_addO DA hSF (hr2.mono (by decide)) (passes_call (takes_of rfl rfl rfl rfl) (fun _ _ _ _ h => h))) (pv 5) (pe_cal FG (hr2.mono (by decide)) (by rfl) (passes_call (takes_of rfl rfl rfl rfl) (fun _ _ _ _ h => h)) (pa_cons (pv 1) (pa_cons (pe_op op_rep (pe_lst (pa_cons (pe_tup (pa_cons pe_str (pa_cons pe_int (pa_cons pe_int (pa_cons pe_int pa_nil))))) pa_nil)) (pv 10)) pa_nil)))) rfl) pa_nil))) (pv 9) (nomark _)) (pss_one (ps_ret pe_bl)) pss_nil))))
    (pss_one (ps_ret pe_bl)))))))))), ?_⟩
    have n0 : Now T S H0 H0 := ⟨Kp.refl S H0, hs0, tb0⟩
    -- the sizes
    refine ⟨fun σ H => ∃ (sz : Addr) (ns : List Int), σ = [some (.ref S), some (.ref sz), none, none, none, none, none, none, none, none, none] ∧ Now T S H0 H ∧ H sz = some (.lst (ns.map V.int)) ∧ sz ≠ S ∧ SizesOk ns, ?_, ?_⟩
    · refine ⟨_, rfl, S, 6, rfl, hs0, by decide, by decide, fun sz ns H1 hs1 ks1 hz nz hf ok l6 => ⟨sz, ns, rfl, n0.ks ks1 hs1, hz, nz, ok⟩⟩
    rintro σ H ⟨sz, ns, rfl, n, hz, nz, ok⟩
    have l1 : 1 ≤ ns.length := ok.1.1
    -- programs with invalid parts
    refine ⟨fun σ H => (∃ v2 : Option V, σ = [some (.ref S), some (.ref sz), v2, none, none, none, none, none, none, none, none]) ∧ Now T S H0 H ∧ H sz = some (.lst (ns.map V.int)), ?_, ?_⟩
    · refine ⟨_, rfl, by decide, by decide, ?_⟩
      refine for_range (lo := 0) (n := (4 : Int).toNat) (fun _ σ H => (∃ v2 : Option V, σ = [some (.ref S), some (.ref sz), v2, none, none, none, none, none, none, none, none]) ∧ Now T S H0 H ∧ H sz = some (.lst (ns.map V.int))) ⟨⟨_, rfl⟩, n, hz⟩ ?_ (fun σ H h => h)
      clear n hz
      rintro t σ H ht ⟨⟨v2, rfl⟩, n, hz⟩
      refine g_name ?_
      refine ⟨_, rfl, _, rfl, S, sz, ns, rfl, n.hs, hz, nz, ok, n.tb, fun H1 n1 => ⟨true, rfl, iteF ?_⟩⟩
      exact ⟨⟨_, rfl⟩, ⟨n.kp.trans n1.kp, n1.hs, n1.tb⟩, n1.kp _ _ hz nz (fun ps z => by cases z)⟩
    clear n hz
    rintro σ H ⟨⟨v2, rfl⟩, n, hz⟩
    -- other memories
    refine ⟨fun σ H => ∃ (ol o1 o2 : Addr) (ms1 ms2 : List Int), σ = [some (.ref S), some (.ref sz), v2, some (.ref ol), none, none, none, none, none, none, none] ∧ Now T S H0 H ∧ H sz = some (.lst (ns.map V.int)) ∧ (H ol = some (.lst [.ref o1, .ref o2]) ∧ H o1 = some (.lst (ms1.map V.int)) ∧ H o2 = some (.lst (ms2.map V.int))) ∧ (ol ≠ S ∧ o1 ≠ S ∧ o2 ≠ S) ∧ SizesOk ms1 ∧ SizesOk ms2, ?_, ?_⟩
    · obtain ⟨l, hl, hat⟩ := last_at l1
      refine ⟨_, rfl, _, rfl, _, rfl, sz, _, rfl, SqL.of hz, fun a ha => ?_⟩
      have e1 := Same.new (o := .lst (cutV (ns.map V.int) none (some (-1)))) ha
      refine ⟨_, rfl, _, rfl, sz, _, _, _, rfl, rfl, SqL.of (e1 _ _ hz), hat, _, _, rfl, rfl, (by show (0 : Int) < 4; decide), _, _, rfl, rfl, by show 1 ≤ sizeLine; decide, fun b hb => ?_⟩
      have e2 := Same.new (o := .lst [V.int (l % 4 + 1)]) hb
      have hal : (cutV (ns.map V.int) none (some (-1))).length ≤ 6 := Nat.le_trans (cutV_length _ _ _) (by rw [List.length_map]; exact ok.1.2)
      refine ⟨a, b, _, _, rfl, rfl, e2 _ _ upd_same, upd_same, Nat.le_trans (Nat.add_le_add hal (Nat.le_refl 1)) (by decide), fun o1 h1 => ?_⟩
      have e3 := Same.new (o := .lst (cutV (ns.map V.int) none (some (-1)) ++ [V.int (l % 4 + 1)])) h1
      refine ⟨_, rfl, by show 2 ≤ sizeLine; decide, fun cc hc => ?_⟩
      have e4 := Same.new (o := .lst [V.int 1, V.int 2]) hc
      refine ⟨sz, cc, _, _, rfl, rfl, ((e1.trans e2).trans (e3.trans e4)) _ _ hz, upd_same, by rw [List.length_map]; exact Nat.le_trans (Nat.add_le_add ok.1.2 (Nat.le_refl 2)) (by decide), fun e he => ?_⟩
      have e5 := Same.new (o := .lst (ns.map V.int ++ [V.int 1, V.int 2])) he
      refine ⟨6, rfl, e, _, rfl, SqL.of upd_same, fun o2 h2 => ?_⟩
      have e6 := Same.new (o := .lst (cutV (ns.map V.int ++ [V.int 1, V.int 2]) none (some 6))) h2
      refine ⟨by show 2 ≤ sizeLine; decide, fun ol hol => g_name ?_⟩
      have e7 := Same.new (o := .lst [V.ref o1, V.ref o2]) hol
      have e47 := e4.trans (e5.trans (e6.trans e7))
      have eall := (e1.trans e2).trans (e3.trans e47)
      have m1 : cutV (ns.map V.int) none (some (-1)) ++ [V.int (l % 4 + 1)] = (ns.take (ns.length - 1) ++ [l % 4 + 1]).map V.int := by
        rw [cut_init, List.length_map, List.map_append, List.map_take]
        rfl
      have m2 : cutV (ns.map V.int ++ [V.int 1, V.int 2]) none (some 6) = ((ns ++ [1, 2]).take 6).map V.int := by
        rw [show (6 : Int) = ((6 : Nat) : Int) from rfl, cut_to, List.map_take, List.map_append]
        rfl
      have na : o1 ≠ S := src_ne (o := .lst []) (Same.src (e1.trans e2) n.hs) h1
      have nb : o2 ≠ S := src_ne (o := .lst []) (Same.src ((e1.trans e2).trans (e3.trans (e4.trans e5))) n.hs) h2
      have nc : ol ≠ S := src_ne (o := .lst []) (Same.src ((e1.trans e2).trans (e3.trans (e4.trans (e5.trans e6)))) n.hs) hol
      refine ⟨ol, o1, o2, _, _, rfl, n.same eall, eall _ _ hz, ⟨upd_same, ?_, ?_⟩, ⟨nc, na, nb⟩, sizes1 ok hl, sizes2 ok⟩
      · rw [← m1]
        exact e47 _ _ upd_same
      · rw [← m2]
        exact e7 _ _ upd_same
    clear n hz
    rintro σ H ⟨ol, o1, o2, ms1, ms2, rfl, n, hz, ⟨hol, ho1, ho2⟩, ⟨nol, no1, no2⟩, ok1, ok2⟩
    -- how many commands
    refine ⟨fun σ H => ∃ left : Nat, (1 ≤ left ∧ left ≤ 200) ∧ σ = [some (.ref S), some (.ref sz), v2, some (.ref ol), some (.int (left : Int)), none, none, none, none, none, none] ∧ Now T S H0 H ∧ H sz = some (.lst (ns.map V.int)) ∧ (H ol = some (.lst [.ref o1, .ref o2]) ∧ H o1 = some (.lst (ms1.map V.int)) ∧ H o2 = some (.lst (ms2.map V.int))), ?_, ?_⟩
    · refine ⟨_, rfl, by show 4 ≤ sizeLine; decide, fun p hp => ?_⟩
      have e1 := fun o => Same.new (o := o) hp
      refine ⟨S, p, _, rfl, Same.src (e1 _) n.hs, upd_same, n.noS hp, by decide, by decide, fun x H2 hx hs2 ks2 => ?_⟩
      have m1 := (n.same (e1 _)).ks ks2 hs2
      have q1 := ks2 _ _ (e1 _ _ _ hz) nz
      have q2 := ks2 _ _ (e1 _ _ _ hol) nol
      have q3 := ks2 _ _ (e1 _ _ _ ho1) no1
      have q4 := ks2 _ _ (e1 _ _ _ ho2) no2
      simp only [List.mem_cons, List.not_mem_nil, or_false] at hx
      rcases hx with rfl | rfl | rfl | rfl
      · exact ⟨1, ⟨by decide, by decide⟩, rfl, m1, q1, q2, q3, q4⟩
      · exact ⟨100, ⟨by decide, by decide⟩, rfl, m1, q1, q2, q3, q4⟩
      · exact ⟨199, ⟨by decide, by decide⟩, rfl, m1, q1, q2, q3, q4⟩
      · exact ⟨200, ⟨by decide, by decide⟩, rfl, m1, q1, q2, q3, q4⟩
    clear n hz hol ho1 ho2
    rintro σ H ⟨left, ⟨lf1, lf2⟩, rfl, n, hz, hol, ho1, ho2⟩
    -- one program
    refine ⟨fun σ H => ∃ one, σ = [some (.ref S), some (.ref sz), v2, some (.ref ol), some (.int (left : Int)), some (.ref one), none, none, none, none, none] ∧ Now T S H0 H ∧ R04 d H sz one ns left ∧ (H ol = some (.lst [.ref o1, .ref o2]) ∧ H o1 = some (.lst (ms1.map V.int)) ∧ H o2 = some (.lst (ms2.map V.int))), ?_, ?_⟩
    · refine ⟨_, rfl, by show 4 ≤ sizeLine; decide, fun q hq => ⟨by show 1 ≤ sizeLine; decide, fun l hl => ?_⟩⟩
      have e1 := Same.new (o := .tup (scV feS)) hq
      have e2 := Same.new (o := .lst [V.ref q]) hl
      refine ⟨_, rfl, l, _, _, rfl, rfl, upd_same, by omega, by omega, by rw [Int.toNat_natCast]; exact Nat.le_trans (Nat.mul_le_mul_left 1 lf2) (by decide), fun z hzz => ?_⟩
      rw [Int.toNat_natCast]
      have e3 := Same.new (o := .lst (List.replicate left [V.ref q]).flatten) hzz
      have e123 := e1.trans (e2.trans e3)
      refine ⟨sz, z, ns, rs left feS, rfl, e123 _ _ hz, ok, rs_at upd_same ((e2.trans e3) _ _ upd_same), by rw [rs_len]; omega, fun er hz2 => ?_, fun _ one H2 e4 hP => ?_⟩
      · have : progErr ns (rc left feS) = none := rc_none (fe_ok ns) lf2
        rw [show cmds (rs left feS) = rc left feS from rfl, this] at hz2
        cases hz2
      · have eall := e123.trans e4
        exact g_name ⟨one, rfl, n.same eall, ⟨eall _ _ hz, hP⟩, eall _ _ hol, eall _ _ ho1, eall _ _ ho2⟩
    clear n hz hol ho1 ho2
    rintro σ H ⟨one, rfl, n, r4, hol, ho1, ho2⟩
    -- 201 commands
    refine ⟨fun σ H => σ = [some (.ref S), some (.ref sz), v2, some (.ref ol), some (.int (left : Int)), some (.ref one), none, none, none, none, none] ∧ Now T S H0 H ∧ R04 d H sz one ns left ∧ (H ol = some (.lst [.ref o1, .ref o2]) ∧ H o1 = some (.lst (ms1.map V.int)) ∧ H o2 = some (.lst (ms2.map V.int))), ?_, ?_⟩
    · refine ⟨n.tb, fun H1 eN T1 E' R' hE hO hR => ?_⟩
      have n1 := n.ext eN T1
      have r1 := r4.ext eN
      have g1 := eN _ _ hol (fun ps z => by cases z)
      have g2 := eN _ _ ho1 (fun ps z => by cases z)
      have g3 := eN _ _ ho2 (fun ps z => by cases z)
      refine ⟨_, rfl, fun m dm nm ndm ne => ⟨true, m, dm, sz, ns, rfl, upd_same, SqL.of ?_, ne_of_none r1.sz nm, fun w n hb => ?_, fun _ => ⟨fun _ t ht => ⟨rfl, ?_⟩, fun z => by cases z⟩⟩⟩
      · exact Same.mut (Same.new ndm) nm _ _ r1.sz
      · rw [ok.bad] at hb
        cases hb
      have ntm : t ≠ m := fun z => by
        rw [z, upd_same] at ht
        cases ht
      have e1 : Same H1 (upd (upd (upd (upd H1 dm (.own m)) m (.ins d.me dm [])) t (.tup (ns.map V.int))) m (.ins d.me dm [("sizes", .ref t)])) := Same.mut ((Same.mut (Same.new ndm) nm).trans (Same.new ht)) nm
      have hM : MemAt d (upd (upd (upd (upd H1 dm (.own m)) m (.ins d.me dm [])) t (.tup (ns.map V.int))) m (.ins d.me dm [("sizes", .ref t)])) m ns := ⟨dm, t, upd_same, by rw [upd_ne ntm, upd_same]⟩
      generalize upd (upd (upd (upd H1 dm (.own m)) m (.ins d.me dm [])) t (.tup (ns.map V.int))) m (.ins d.me dm [("sizes", .ref t)]) = H2 at e1 hM
      refine fun y dy ny ndy ney => ?_
      have e2 : Same H2 (upd (upd H2 dy (.own y)) y (.ins d.fe dy [])) := Same.mut (Same.new ndy) ny
      have hy : CmdAt d (upd (upd H2 dy (.own y)) y (.ins d.fe dy [])) (.ref y) .fence := ⟨y, dy, rfl, upd_same⟩
      generalize upd (upd H2 dy (.own y)) y (.ins d.fe dy []) = H3 at e2 hy
      refine ⟨by show 1 ≤ sizeLine; decide, fun l hl => ?_⟩
      have e3 := Same.new (o := .lst [V.ref y]) hl
      refine ⟨l, 201, _, rfl, rfl, upd_same, by decide, by decide, (by show 1 * 201 ≤ sizeLine; decide), fun z hzz => ?_⟩
      have e4 := Same.new (o := .lst (List.replicate 201 [V.ref y]).flatten) hzz
      refine fun x dx nx ndx nex => ?_
      have e5 := fun o => Same.mut (o := o) (Same.new (o := .own x) ndx) nx
      have hfe : All2 (CmdAt d _) (List.replicate 201 [V.ref y]).flatten (List.replicate 201 [Cmd.fence]).flatten := (All2.snoc (vs := []) (cs := []) .nil (hy.ke (Ke.same ((e3.trans e4).trans (e5 (.ins d.pr dx [])))))).rep 201
      have hcl : (List.replicate 201 [Cmd.fence]).flatten.length = 201 := by rw [rep_len]; rfl
      refine ⟨true, x, dx, m, ns, z, _, _, rfl, upd_same, hM.ke (Ke.same ((e2.trans (e3.trans e4)).trans (e5 _))), (e5 _) _ _ upd_same, hfe, fun er hz2 => ?_, fun hz2 => ?_⟩
      · rw [prog_long (by rw [hcl]; decide), hcl] at hz2
        cases hz2
        intro xx hxx
        have e6 := Same.new (o := .xd (errFs (.count "commands" (201 : Nat)))) hxx
        refine hE (.count "commands" (201 : Nat)) xx _ rfl upd_same fun p hp => ?_
        have e7 := Same.new (o := .tup (tagOf (.count "commands" (201 : Nat)))) hp
        refine ⟨by show 3 ≤ sizeLine; decide, fun p2 hp2 => ?_⟩
        have e8 := Same.new (o := .tup (tagOf (.count "commands" (201 : Nat)))) hp2
        refine ⟨_, _, dp_tag (e8 _ _ upd_same), dp_tag (e := .count "commands" (201 : Nat)) upd_same, cmds_shaped _, cmds_shaped _, _, rfl, ?_⟩
        rw [eqv_same (cmds_shaped _)]
        have eall := (e1.trans (e2.trans (e3.trans (e4.trans (e5 (.ins d.pr dx [])))))).trans (e6.trans (e7.trans e8))
        exact iteF ⟨rfl, n1.same eall, r1.same eall, eall _ _ g1, eall _ _ g2, eall _ _ g3⟩
      · rw [prog_long (by rw [hcl]; decide)] at hz2
        cases hz2
    clear n r4 hol ho1 ho2
    rintro σ H ⟨rfl, n, r4, hol, ho1, ho2⟩
    -- sums with programs of other memories
    refine ⟨fun σ H => (∃ v6 v7 v8 v9 v10 : Option V, σ = [some (.ref S), some (.ref sz), v2, some (.ref ol), some (.int (left : Int)), some (.ref one), v6, v7, v8, v9, v10]) ∧ Now T S H0 H ∧ R04 d H sz one ns left, ?_, ?_⟩
    · refine ⟨_, rfl, ol, rfl, ⟨_, SqL.of hol⟩, for_list (K := K) (a := ol) (xs := [V.ref o1, V.ref o2]) (fun _ σ H => (∃ v6 v7 v8 v9 v10 : Option V, σ = [some (.ref S), some (.ref sz), v2, some (.ref ol), some (.int (left : Int)), some (.ref one), v6, v7, v8, v9, v10]) ∧ Now T S H0 H ∧ R04 d H sz one ns left ∧ (H ol = some (.lst [.ref o1, .ref o2]) ∧ H o1 = some (.lst (ms1.map V.int)) ∧ H o2 = some (.lst (ms2.map V.int))))
        ⟨⟨_, _, _, _, _, rfl⟩, n, r4, hol, ho1, ho2⟩ (fun i σ H _ h => SqL.of h.2.2.2.1) ?_ (fun σ H h => ⟨h.1, h.2.1, h.2.2.1⟩)⟩
      clear n r4 hol ho1 ho2
      rintro i x σ H hi ⟨⟨v6, v7, v8, v9, v10, rfl⟩, n, r4, hol, ho1, ho2⟩
      obtain ⟨o, ms, rfl, ho, okm⟩ : ∃ (o : Addr) (ms : List Int), x = .ref o ∧ H o = some (.lst (ms.map V.int)) ∧ SizesOk ms := by
        match i, hi with
        | 0, hi => exact ⟨o1, ms1, (Option.some.inj hi).symm, ho1, ok1⟩
        | 1, hi => exact ⟨o2, ms2, (Option.some.inj hi).symm, ho2, ok2⟩
        | i + 2, hi => cases hi
      refine g_name ?_
      refine ⟨by show 2 ≤ sizeLine; decide, fun pl hpl => ?_⟩
      have e0 := Same.new (o := .lst [V.int 0, V.int 200]) hpl
      refine ⟨pl, rfl, ⟨_, SqL.of upd_same⟩, for_list (K := K) (a := pl) (xs := [V.int 0, V.int 200]) (fun _ σ H => (∃ v7 v8 v9 v10 : Option V, σ = [some (.ref S), some (.ref sz), v2, some (.ref ol), some (.int (left : Int)), some (.ref one), some (.ref o), v7, v8, v9, v10]) ∧ Now T S H0 H ∧ R04 d H sz one ns left ∧ (H ol = some (.lst [.ref o1, .ref o2]) ∧ H o1 = some (.lst (ms1.map V.int)) ∧ H o2 = some (.lst (ms2.map V.int))) ∧ H o = some (.lst (ms.map V.int)) ∧ H pl = some (.lst [V.int 0, V.int 200]))
        ⟨⟨_, _, _, _, rfl⟩, n.same e0, r4.same e0, ⟨e0 _ _ hol, e0 _ _ ho1, e0 _ _ ho2⟩, e0 _ _ ho, upd_same⟩ (fun i σ H _ h => SqL.of h.2.2.2.2.2) ?_ (fun σ H h => ⟨by obtain ⟨⟨_, _, _, _, z⟩, _⟩ := h; exact ⟨_, _, _, _, _, z⟩, h.2.1, h.2.2.1, h.2.2.2.1⟩)⟩
      clear n r4 hol ho1 ho2 ho e0 hpl v7 v8 v9 v10
      rintro i x σ H hi ⟨⟨v7, v8, v9, v10, rfl⟩, n, r4, ⟨hol, ho1, ho2⟩, ho, hpl⟩
      obtain ⟨mn, rfl, hmn⟩ : ∃ mn : Nat, x = .int (mn : Int) ∧ mn ≤ 200 := by
        match i, hi with
        | 0, hi => exact ⟨0, (Option.some.inj hi).symm, by decide⟩
        | 1, hi => exact ⟨200, (Option.some.inj hi).symm, by decide⟩
        | i + 2, hi => cases hi
      refine g_name ?_
      -- the other program
      refine ⟨fun σ H => ∃ stg, (σ = [some (.ref S), some (.ref sz), v2, some (.ref ol), some (.int (left : Int)), some (.ref one), some (.ref o), some (.int (mn : Int)), some (.ref stg), v9, v10]) ∧ Now T S H0 H ∧ R04 d H sz one ns left ∧ (H ol = some (.lst [.ref o1, .ref o2]) ∧ H o1 = some (.lst (ms1.map V.int)) ∧ H o2 = some (.lst (ms2.map V.int))) ∧ H o = some (.lst (ms.map V.int)) ∧ H pl = some (.lst [V.int 0, V.int 200]) ∧ ProgAt d H stg ms (rc mn flS), ?_, ?_⟩
      · refine ⟨_, rfl, by show 4 ≤ sizeLine; decide, fun q hq => ⟨by show 1 ≤ sizeLine; decide, fun l hl => ?_⟩⟩
        have e1 := Same.new (o := .tup (scV flS)) hq
        have e2 := Same.new (o := .lst [V.ref q]) hl
        refine ⟨_, rfl, l, _, _, rfl, rfl, upd_same, by omega, by omega, by rw [Int.toNat_natCast]; exact Nat.le_trans (Nat.mul_le_mul_left 1 hmn) (by decide), fun z hzz => ?_⟩
        rw [Int.toNat_natCast]
        have e3 := Same.new (o := .lst (List.replicate mn [V.ref q]).flatten) hzz
        have e123 := e1.trans (e2.trans e3)
        refine ⟨o, z, ms, rs mn flS, rfl, e123 _ _ ho, okm, rs_at upd_same ((e2.trans e3) _ _ upd_same), by rw [rs_len]; omega, fun er hz2 => ?_, fun _ stg H2 e4 hP => ?_⟩
        · have : progErr ms (rc mn flS) = none := rc_none (fl_ok okm.1.1) hmn
          rw [show cmds (rs mn flS) = rc mn flS from rfl, this] at hz2
          cases hz2
        · have eall := e123.trans e4
          exact g_name ⟨stg, rfl, n.same eall, r4.same eall, ⟨eall _ _ hol, eall _ _ ho1, eall _ _ ho2⟩, eall _ _ ho, eall _ _ hpl, hP⟩
      clear n r4 hol ho1 ho2 ho hpl
      rintro σ H ⟨stg, rfl, n, r4, ⟨hol, ho1, ho2⟩, ho, hpl, hP0⟩
      -- what is due
      refine ⟨fun σ H => ∃ dq, (σ = [some (.ref S), some (.ref sz), v2, some (.ref ol), some (.int (left : Int)), some (.ref one), some (.ref o), some (.int (mn : Int)), some (.ref stg), some (.ref dq), v10]) ∧ Now T S H0 H ∧ R04 d H sz one ns left ∧ (H ol = some (.lst [.ref o1, .ref o2]) ∧ H o1 = some (.lst (ms1.map V.int)) ∧ H o2 = some (.lst (ms2.map V.int))) ∧ H o = some (.lst (ms.map V.int)) ∧ H pl = some (.lst [V.int 0, V.int 200]) ∧ ProgAt d H stg ms (rc mn flS) ∧ H dq = some (.tup (okV ((left : Int) + (mn : Int)))), ?_, ?_⟩
      · refine ⟨_, rfl, _, rfl, _, _, rfl, rfl, by show 2 ≤ sizeLine; decide, fun dq hdq => ?_⟩
        have e1 := Same.new (o := .tup (okV ((left : Int) + (mn : Int)))) hdq
        exact ⟨dq, rfl, n.same e1, r4.same e1, ⟨e1 _ _ hol, e1 _ _ ho1, e1 _ _ ho2⟩, e1 _ _ ho, e1 _ _ hpl, hP0.ke (Ke.same e1), upd_same⟩
      clear n r4 hol ho1 ho2 ho hpl hP0
      rintro σ H ⟨dq0, rfl, n, r4, ⟨hol, ho1, ho2⟩, ho, hpl, hP0, hd0⟩
      refine ⟨fun σ H => ∃ dq, (σ = [some (.ref S), some (.ref sz), v2, some (.ref ol), some (.int (left : Int)), some (.ref one), some (.ref o), some (.int (mn : Int)), some (.ref stg), some (.ref dq), v10]) ∧ Now T S H0 H ∧ R04 d H sz one ns left ∧ (H ol = some (.lst [.ref o1, .ref o2]) ∧ H o1 = some (.lst (ms1.map V.int)) ∧ H o2 = some (.lst (ms2.map V.int))) ∧ H o = some (.lst (ms.map V.int)) ∧ H pl = some (.lst [V.int 0, V.int 200]) ∧ ProgAt d H stg ms (rc mn flS) ∧ H dq = some (.tup (dueV ns ms (left + mn))), ?_, ?_⟩
      · refine ⟨_, rfl, _, rfl, .list (ms.map PyData.int), .list (ns.map PyData.int), .lst (SqL.of ho) (dpAll_ints _), .lst (SqL.of r4.sz) (dpAll_ints _), shaped_lst _, shaped_lst _, _, rfl, ?_⟩
        rw [eqv_lst]
        by_cases eq : ns = ms
        · rw [decide_eq_true eq.symm]
          refine iteF ?_
          refine ⟨_, rfl, _, rfl, _, _, rfl, rfl, _, _, rfl, rfl, _, rfl, ?_⟩
          refine ite2 (fun big => ?_) (fun big => ?_)
          · have b2 : 200 < left + mn := by
              have := of_decide_eq_true big
              omega
            refine ⟨_, rfl, _, rfl, _, _, rfl, rfl, by show 3 ≤ sizeLine; decide, fun dq hdq => ?_⟩
            have e1 := Same.new (o := .tup (tagOf (.count "commands" (((left + mn : Nat)) : Int)))) hdq
            refine ⟨dq, rfl, n.same e1, r4.same e1, ⟨e1 _ _ hol, e1 _ _ ho1, e1 _ _ ho2⟩, e1 _ _ ho, e1 _ _ hpl, hP0.ke (Ke.same e1), ?_⟩
            unfold dueV
            rw [if_pos eq, if_pos b2]
            exact upd_same
          · have b2 : ¬ 200 < left + mn := fun z => big (decide_eq_true (by omega))
            refine ⟨dq0, rfl, n, r4, ⟨hol, ho1, ho2⟩, ho, hpl, hP0, ?_⟩
            unfold dueV
            rw [if_pos eq, if_neg b2]
            exact hd0
        · rw [decide_eq_false (fun z => eq z.symm)]
          refine iteT ?_
          refine ⟨by show 1 ≤ sizeLine; decide, fun dq hdq => ?_⟩
          have e1 := Same.new (o := .tup omV) hdq
          refine ⟨dq, rfl, n.same e1, r4.same e1, ⟨e1 _ _ hol, e1 _ _ ho1, e1 _ _ ho2⟩, e1 _ _ ho, e1 _ _ hpl, hP0.ke (Ke.same e1), ?_⟩
          unfold dueV
          rw [if_neg eq]
          exact upd_same
      clear n r4 hol ho1 ho2 ho hpl hP0 hd0
      rintro σ H ⟨dq, rfl, n, r4, ⟨hol, ho1, ho2⟩, ho, hpl, hP0, hdq⟩
      -- the sum
      refine ⟨n.tb, fun H1 eN T1 E' R' hE hO hR => ?_⟩
      have n1 := n.ext eN T1
      have r1 := r4.ext eN
      have g0 := eN _ _ hol (fun ps z => by cases z)
      have g1 := eN _ _ ho1 (fun ps z => by cases z)
      have g2 := eN _ _ ho2 (fun ps z => by cases z)
      have g3 := eN _ _ ho (fun ps z => by cases z)
      have g4 := eN _ _ hpl (fun ps z => by cases z)
      have hdq1 := eN _ _ hdq (fun ps z => by cases z)
      have hP2 := hP0.ke (Ke.ext eN)
      refine ⟨_, rfl, _, rfl, ?_⟩
      obtain ⟨dx, m, t, vs, hp1, hm1, ht1, hA1⟩ := id r1.one
      obtain ⟨dy, m2, t2, vs2, hp2, hm2, ht2, hA2⟩ := id hP2
      refine ⟨one, stg, dx, dy, _, _, rfl, rfl, hp1, hp2, one, stg, ns, ms, rc left feS, rc mn flS, rfl, r1.one, hP2, by rw [rc_len, rc_len]; omega, fun ne => ?_, fun eq => ⟨fun er z H2 e2 x hx => ?_, fun z r H2 e2 hP => ?_⟩⟩
      · refine hO _ fun p hp => ?_
        have e3 := Same.new (o := .tup omV) hp
        have hv : dueV ns ms (left + mn) = omV := if_neg ne
        refine ⟨_, rfl, _, _, dp_due (ns := ns) (ms := ms) (n := (left + mn)) (by rw [hv]; exact upd_same), dp_due (ns := ns) (ms := ms) (n := (left + mn)) (e3 _ _ hdq1), duen_shaped, duen_shaped, _, rfl, ?_⟩
        rw [eqv_same duen_shaped]
        exact iteF ⟨⟨_, _, _, _, rfl⟩, n1.same e3, r1.same e3, ⟨e3 _ _ g0, e3 _ _ g1, e3 _ _ g2⟩, e3 _ _ g3, e3 _ _ g4⟩
      · subst eq
        rw [rc_sum (fe_ok ns) (fl_ok l1)] at z
        by_cases big : 200 < (left + mn)
        · rw [if_pos big] at z
          cases z
          have e3 := Same.new (o := .xd (errFs (.count "commands" (((left + mn) : Nat) : Int)))) hx
          refine hE (.count "commands" (((left + mn) : Nat) : Int)) x _ rfl upd_same fun p hp => ?_
          have e4 := e2.trans (e3.trans (Same.new (o := .tup (tagOf (.count "commands" (((left + mn) : Nat) : Int)))) hp))
          have hv : dueV ns ns ((left + mn)) = tagOf (.count "commands" (((left + mn) : Nat) : Int)) := by
            unfold dueV
            rw [if_pos rfl, if_pos big]
          refine ⟨_, rfl, _, _, dp_due (ns := ns) (ms := ns) (n := (left + mn)) (by rw [hv]; exact upd_same), dp_due (ns := ns) (ms := ns) (n := (left + mn)) (e4 _ _ hdq1), duen_shaped, duen_shaped, _, rfl, ?_⟩
          rw [eqv_same duen_shaped]
          exact iteF ⟨⟨_, _, _, _, rfl⟩, n1.same e4, r1.same e4, ⟨e4 _ _ g0, e4 _ _ g1, e4 _ _ g2⟩, e4 _ _ g3, e4 _ _ g4⟩
        · rw [if_neg big] at z
          cases z
      · subst eq
        rw [rc_sum (fe_ok ns) (fl_ok l1)] at z
        by_cases big : 200 < (left + mn)
        · rw [if_pos big] at z
          cases z
        · obtain ⟨dz, m3, t3, vs3, hp3, hm3, ht3, hA3⟩ := hP
          refine ⟨⟨r, rfl⟩, r, d.pr, dz, _, _, rfl, hp3, TP.cP, TP.nCo, rfl, t3, vs3, rfl, .inr (SqT.of ht3), hR _ _ fun p hp => ?_⟩
          have hl3 : vs3.length = (left + mn) := by rw [hA3.1, List.length_append, rc_len, rc_len]
          have e4 := e2.trans (Same.new (o := .tup [.str "ok", .int (vs3.length : Nat)]) hp)
          have hv : dueV ns ns ((left + mn)) = [.str "ok", .int (vs3.length : Nat)] := by
            unfold dueV
            rw [if_pos rfl, if_neg big, hl3]
            rfl
          refine ⟨_, rfl, _, _, dp_due (ns := ns) (ms := ns) (n := (left + mn)) (by rw [hv]; exact upd_same), dp_due (ns := ns) (ms := ns) (n := (left + mn)) (e4 _ _ hdq1), duen_shaped, duen_shaped, _, rfl, ?_⟩
          rw [eqv_same duen_shaped]
          exact iteF ⟨⟨_, _, _, _, rfl⟩, n1.same e4, r1.same e4, ⟨e4 _ _ g0, e4 _ _ g1, e4 _ _ g2⟩, e4 _ _ g3, e4 _ _ g4⟩
    clear n r4 hol ho1 ho2
    rintro σ H ⟨⟨v6, v7, v8, v9, v10, rfl⟩, n, r4⟩
    -- sums with programs of the same memory
    refine ⟨fun _ H => Now T S H0 H, ?_, fun _ H' h => k H' h⟩
    refine ⟨_, rfl, _, _, rfl, rfl, _, rfl, _, _, rfl, rfl, by show 3 ≤ sizeLine; decide, fun pl hpl => ?_⟩
    have e0 := Same.new (o := .lst [V.int (200 - (left : Int)), V.int (201 - (left : Int)), V.int 200]) hpl
    refine ⟨pl, rfl, ⟨_, SqL.of upd_same⟩, for_list (K := K) (a := pl) (xs := [V.int (200 - (left : Int)), V.int (201 - (left : Int)), V.int 200]) (fun _ σ H => (∃ v9 v10 : Option V, σ = [some (.ref S), some (.ref sz), v2, some (.ref ol), some (.int (left : Int)), some (.ref one), v6, v7, v8, v9, v10]) ∧ Now T S H0 H ∧ R04 d H sz one ns left ∧ H pl = some (.lst [V.int (200 - (left : Int)), V.int (201 - (left : Int)), V.int 200]))
      ⟨⟨_, _, rfl⟩, n.same e0, r4.same e0, upd_same⟩ (fun i σ H _ h => SqL.of h.2.2.2) ?_ (fun σ H h => h.2.1)⟩
    clear n r4 e0 hpl v9 v10
    rintro i x σ H hi ⟨⟨v9, v10, rfl⟩, n, r4, hpl⟩
    obtain ⟨mn, rfl, hmn⟩ : ∃ mn : Nat, x = .int (mn : Int) ∧ mn ≤ 200 := by
      match i, hi with
      | 0, hi => exact ⟨200 - left, by rw [← Option.some.inj hi]; congr 1; omega, by omega⟩
      | 1, hi => exact ⟨201 - left, by rw [← Option.some.inj hi]; congr 1; omega, by omega⟩
      | 2, hi => exact ⟨200, (Option.some.inj hi).symm, by decide⟩
      | i + 3, hi => cases hi
    refine g_name ?_
    -- what is due
    refine ⟨fun σ H => ∃ dq, (σ = [some (.ref S), some (.ref sz), v2, some (.ref ol), some (.int (left : Int)), some (.ref one), v6, v7, v8, some (.ref dq), some (.int (mn : Int))]) ∧ Now T S H0 H ∧ R04 d H sz one ns left ∧ H pl = some (.lst [V.int (200 - (left : Int)), V.int (201 - (left : Int)), V.int 200]) ∧ H dq = some (.tup (dueV ns ns (left + mn))), ?_, ?_⟩
    · refine ⟨_, rfl, _, rfl, _, _, rfl, rfl, _, _, rfl, rfl, _, rfl, ?_⟩
      refine ite2 (fun small => ?_) (fun small => ?_)
      · have b2 : ¬ 200 < left + mn := by
          have := of_decide_eq_true small
          omega
        refine ⟨_, rfl, _, rfl, _, _, rfl, rfl, by show 2 ≤ sizeLine; decide, fun dq hdq => ?_⟩
        have e1 := Same.new (o := .tup (okV ((left + mn : Nat) : Int))) hdq
        refine ⟨dq, rfl, n.same e1, r4.same e1, e1 _ _ hpl, ?_⟩
        unfold dueV
        rw [if_pos rfl, if_neg b2]
        exact upd_same
      · have b2 : 200 < left + mn := by
          apply Decidable.byContradiction
          intro z
          exact small (decide_eq_true (by omega))
        refine ⟨_, rfl, _, rfl, _, _, rfl, rfl, by show 3 ≤ sizeLine; decide, fun dq hdq => ?_⟩
        have e1 := Same.new (o := .tup (tagOf (.count "commands" ((left + mn : Nat) : Int)))) hdq
        refine ⟨dq, rfl, n.same e1, r4.same e1, e1 _ _ hpl, ?_⟩
        unfold dueV
        rw [if_pos rfl, if_pos b2]
        exact upd_same
    clear n r4 hpl
    rintro σ H ⟨dq, rfl, n, r4, hpl, hdq⟩
    refine ⟨n.tb, fun H1 eN T1 E' R' hE hO hR => ?_⟩
    have n1' := n.ext eN T1
    have r1' := r4.ext eN
    have g4' := eN _ _ hpl (fun ps z => by cases z)
    have hdq1' := eN _ _ hdq (fun ps z => by cases z)
    refine ⟨_, rfl, _, rfl, by show 4 ≤ sizeLine; decide, fun q hq => ⟨by show 1 ≤ sizeLine; decide, fun l hl => ?_⟩⟩
    have e1 := Same.new (o := .tup (scV feS)) hq
    have e2 := Same.new (o := .lst [V.ref q]) hl
    refine ⟨_, rfl, l, _, _, rfl, rfl, upd_same, by omega, by omega, by rw [Int.toNat_natCast]; exact Nat.le_trans (Nat.mul_le_mul_left 1 hmn) (by decide), fun z hzz => ?_⟩
    rw [Int.toNat_natCast]
    have e3 := Same.new (o := .lst (List.replicate mn [V.ref q]).flatten) hzz
    have e123 := e1.trans (e2.trans e3)
    refine ⟨sz, z, ns, rs mn feS, rfl, e123 _ _ r1'.sz, ok, rs_at upd_same ((e2.trans e3) _ _ upd_same), by rw [rs_len]; omega, fun er hz2 => ?_, fun _ stg H5 e4 hP2 => ?_⟩
    · have : progErr ns (rc mn feS) = none := rc_none (fe_ok ns) hmn
      rw [show cmds (rs mn feS) = rc mn feS from rfl, this] at hz2
      cases hz2
    have eall := e123.trans e4
    have n1 := n1'.same eall
    have r1 := r1'.same eall
    have g4 := eall _ _ g4'
    have hdq1 := eall _ _ hdq1'
    obtain ⟨dx, m, t, vs, hp1, hm1, ht1, hA1⟩ := id r1.one
    obtain ⟨dy, m2, t2, vs2, hp2, hm2, ht2, hA2⟩ := id hP2
    refine ⟨one, stg, dx, dy, _, _, rfl, rfl, hp1, hp2, one, stg, ns, ns, rc left feS, rc mn feS, rfl, r1.one, hP2, by rw [rc_len, rc_len]; omega, fun ne => ?_, fun eq => ⟨fun er z H2 e2 x hx => ?_, fun z r H2 e2 hP => ?_⟩⟩
    · refine hO _ fun p hp => ?_
      have e3 := Same.new (o := .tup omV) hp
      have hv : dueV ns ns (left + mn) = omV := if_neg ne
      refine ⟨_, rfl, _, _, dp_due (ns := ns) (ms := ns) (n := (left + mn)) (by rw [hv]; exact upd_same), dp_due (ns := ns) (ms := ns) (n := (left + mn)) (e3 _ _ hdq1), duen_shaped, duen_shaped, _, rfl, ?_⟩
      rw [eqv_same duen_shaped]
      exact iteF ⟨⟨_, _, rfl⟩, n1.same e3, r1.same e3, e3 _ _ g4⟩
    · cases eq
      rw [rc_sum (fe_ok ns) (fe_ok ns)] at z
      by_cases big : 200 < (left + mn)
      · rw [if_pos big] at z
        cases z
        have e3 := Same.new (o := .xd (errFs (.count "commands" (((left + mn) : Nat) : Int)))) hx
        refine hE (.count "commands" (((left + mn) : Nat) : Int)) x _ rfl upd_same fun p hp => ?_
        have e4 := e2.trans (e3.trans (Same.new (o := .tup (tagOf (.count "commands" (((left + mn) : Nat) : Int)))) hp))
        have hv : dueV ns ns ((left + mn)) = tagOf (.count "commands" (((left + mn) : Nat) : Int)) := by
          unfold dueV
          rw [if_pos rfl, if_pos big]
        refine ⟨_, rfl, _, _, dp_due (ns := ns) (ms := ns) (n := (left + mn)) (by rw [hv]; exact upd_same), dp_due (ns := ns) (ms := ns) (n := (left + mn)) (e4 _ _ hdq1), duen_shaped, duen_shaped, _, rfl, ?_⟩
        rw [eqv_same duen_shaped]
        exact iteF ⟨⟨_, _, rfl⟩, n1.same e4, r1.same e4, e4 _ _ g4⟩
      · rw [if_neg big] at z
        cases z
    · cases eq
      rw [rc_sum (fe_ok ns) (fe_ok ns)] at z
      by_cases big : 200 < (left + mn)
      · rw [if_pos big] at z
        cases z
      · obtain ⟨dz, m3, t3, vs3, hp3, hm3, ht3, hA3⟩ := hP
        refine ⟨⟨r, rfl⟩, r, d.pr, dz, _, _, rfl, hp3, TP.cP, TP.nCo, rfl, t3, vs3, rfl, .inr (SqT.of ht3), hR _ _ fun p hp => ?_⟩
        have hl3 : vs3.length = (left + mn) := by rw [hA3.1, List.length_append, rc_len, rc_len]
        have e4 := e2.trans (Same.new (o := .tup [.str "ok", .int (vs3.length : Nat)]) hp)
        have hv : dueV ns ns ((left + mn)) = [.str "ok", .int (vs3.length : Nat)] := by
          unfold dueV
          rw [if_pos rfl, if_neg big, hl3]
          rfl
        refine ⟨_, rfl, _, _, dp_due (ns := ns) (ms := ns) (n := (left + mn)) (by rw [hv]; exact upd_same), dp_due (ns := ns) (ms := ns) (n := (left + mn)) (e4 _ _ hdq1), duen_shaped, duen_shaped, _, rfl, ?_⟩
        rw [eqv_same duen_shaped]
        exact iteF ⟨⟨_, _, rfl⟩, n1.same e4, r1.same e4, e4 _ _ g4⟩
end
end Q

namespace Q
open PySem PySem.Spec PyProof.Rows L2 LamX
def tabs4 (P1 P2 : Addr) : List (Addr × Str) := [(P1, (("_law_parts_right" : Str) ++ ".<locals>.") ++ "<lambda>"), (P2, (("_law_right" : Str) ++ ".<locals>.") ++ "<lambda>")]
abbrev sLaw : Stmt := topS 33
theorem scLaw : FnScope ["_law_script", "_law_cell", "_law_source_here"] ["_law_script"] (defScope sLaw) := ⟨rfl, rfl, rfl, by decide +kernel, rfl, by decide +kernel, by decide +kernel⟩

def spLaw (K : PySem.W.Frag) (T : List (Addr × Str)) : Sp := fun vs H Q _ => ∃ (a : Addr) (ns : List Int), vs = [.ref a] ∧ SqL K H a (ns.map V.int) ∧ ns.length ≤ 63 ∧ Tabs T H ∧ ∀ H', Q (.bl true) H'
section
variable {P : Program} {w : World} {K : PySem.W.Frag} {mg : Str → Option Value} {base : Heap}
theorem ok_law {f : Addr} {fd : FuncData} {T : List (Addr × Str)} (F : Fun K "law" "law" sLaw f fd) (FS : Cal P w K mg base CX0 "_law_source" 1 ["_law_cell"] spSource) (FR : Cal P w K mg base CX0 "_law_right" 13 ["_law_source_here"] (spRight T)) :
    FnOk P w K mg base CX0 14 f fd ["_law_script"] (spLaw K T) := by
  refine F.ok scLaw (fun vs H Q E h => ?_) (fun cdv A outer s H vs Q E hr h => ?_)
  · obtain ⟨a, ns, rfl, _⟩ := h
    rfl
  · obtain ⟨a, ns, rfl, hS, h63, tb, k⟩ := h
    refine ⟨_, (Evl.pss_cut (ps_for PassesOwn.never rfl (pi_list (pe_slice sl_list (pe_op op_catR (pv 0) (pe_lst (pa_cons pe_int pa_nil))) po_none (po_some pe_int))) (pg_name (i := 1) scLaw.nd rfl (Or.inl rfl)) (Evl.pss_cut (ps_set (i := 2) scLaw.nd rfl (Or.inl rfl) (pe_cal FS (hr.mono (by decide)) (by rfl) pass0 (pa_cons (pv 1) pa_nil)))
    (pss_one (ps_if (pt_not (pt_val (pe_cal FR (hr.mono (by decide)) (by rfl) pass0 (pa_cons (pv 2) pa_nil)))) (pss_one (ps_ret pe_bl)) pss_nil))))
    (pss_one (ps_ret pe_bl))), ?_⟩
    have l63 : (ns.map V.int).length + 1 ≤ sizeLine := by
      rw [List.length_map]
      exact Nat.le_of_lt (small1000 (by omega))
    refine ⟨fun σ H => True, ?_, fun _ H' _ => k H'⟩
    · refine ⟨_, rfl, Nat.succ_le_of_lt (by decide), fun z hz => ?_⟩
      refine ⟨a, z, _, _, rfl, rfl, (Same.new hz).seq hS, SqL.of upd_same, l63, fun p hp => ?_⟩
      refine ⟨5, rfl, p, _, rfl, SqL.of upd_same, fun q hq => ?_⟩
      refine ⟨q, rfl, ⟨_, SqL.of upd_same⟩, for_list (K := K) (a := q) (fun _ σ H => (∃ v1 v2 : Option V, σ = [some (.ref a), v1, v2]) ∧ H q = some (.lst (cutV (ns.map V.int ++ [V.int 0]) none (some 5))) ∧ Tabs T H)
        ⟨⟨_, _, rfl⟩, upd_same, ((tb.ext (Same.new hz)).ext (Same.new hp)).ext (Same.new hq)⟩ (fun i σ H _ h => SqL.of h.2.1) ?_ (fun σ H h => trivial)⟩
      rintro i x σ H1 hi ⟨⟨v1, v2, rfl⟩, hq1, tb1⟩
      obtain ⟨n, rfl⟩ : ∃ n, x = .int n := by
        have hm : x ∈ ns.map V.int ++ [V.int 0] := List.mem_of_mem_drop (List.mem_of_mem_take (List.mem_of_getElem? hi))
        rcases List.mem_append.mp hm with h | h
        · exact int_of_mem h
        · exact ⟨0, List.mem_singleton.mp h⟩
      refine g_name ?_
      refine ⟨fun σ H => ∃ S, (∃ v1 : Option V, σ = [some (.ref a), v1, some (.ref S)]) ∧ S ≠ q ∧ H q = some (.lst (cutV (ns.map V.int ++ [V.int 0]) none (some 5))) ∧ HasSrc S H ∧ Tabs T H, ?_, ?_⟩
      · refine ⟨_, rfl, n, rfl, fun S x y z hS0 => g_name ?_⟩
        have ne : q ≠ S := ne_of_none hq1 hS0
        exact ⟨S, ⟨_, rfl⟩, Ne.symm ne, by rw [upd_ne ne]; exact hq1, ⟨_, _, _, upd_same⟩, tb1.ext (Same.new hS0)⟩
      rintro σ H2 ⟨S, ⟨v1, rfl⟩, ne, hq2, hs2, tb2⟩
      refine ⟨_, rfl, S, rfl, hs2, tb2, fun H3 n3 => ?_⟩
      refine ⟨true, rfl, iteF ?_⟩
      exact ⟨⟨_, _, rfl⟩, n3.kp _ _ hq2 (Ne.symm ne) (fun ps z => by cases z), n3.tb⟩
end
end Q

namespace Q
open PySem PySem.Spec PyProof.Rows L2 LamX
theorem all_mk {l : PySem.W.OpenLaw} {w : World} {K : PySem.W.Frag} {h : Heap} {mg : Str → Option Value} {fa : Addr} {ts : List Addr} (X : K.In h) (G : h.Ns mainGlobals mg) (hfa : mg "law" = some (.ref fa)) (hT : ∀ P ∈ ts, h.get? P = some (PySem.W.tabObj #[]))
    {CS : Addr}
    {CB : Addr} {nm_CB qn_CB : Str} {N_CB : Addr} {bs_CB bm_CB : List Value} {sn_CB : List Str} {sub_CB : List Value} {ab_CB : Bool} {col_CB : Option Bool} {dd_CB : Option Addr} {m0_CB m1_CB m2_CB m3_CB m5_CB : Option Value}
    {f_badI : Addr} {od_badI an_badI : Option Addr} {sl_badI : Array (Option Value)} {oc_badI kV_badI dc_badI pm_badI cd_badI ct_badI : Value}
    {CL : Addr} {nm_CL qn_CL : Str} {N_CL : Addr} {bs_CL bm_CL : List Value} {sn_CL : List Str} {sub_CL : List Value} {ab_CL : Bool} {col_CL : Option Bool} {dd_CL : Option Addr} {m0_CL m1_CL m2_CL m3_CL m5_CL : Option Value}
    {f_nlI : Addr} {od_nlI an_nlI : Option Addr} {sl_nlI : Array (Option Value)} {oc_nlI kV_nlI dc_nlI pm_nlI cd_nlI ct_nlI : Value}
    {CW : Addr} {nm_CW qn_CW : Str} {N_CW : Addr} {bs_CW bm_CW : List Value} {sn_CW : List Str} {sub_CW : List Value} {ab_CW : Bool} {col_CW : Option Bool} {dd_CW : Option Addr} {m0_CW m1_CW m2_CW m3_CW m5_CW : Option Value}
    {f_nwI : Addr} {od_nwI an_nwI : Option Addr} {sl_nwI : Array (Option Value)} {oc_nwI kV_nwI dc_nwI pm_nwI cd_nwI ct_nwI : Value}
    {t_MOST_LINES : Tok}
    {t_MOST_WORDS : Tok}
    {t_MOST_COMMANDS : Tok}
    {CM : Addr}
    {CT : Addr}
    {CF : Addr}
    {CP : Addr}
    {CE : Addr}
    {f_ck : Addr} {od_ck an_ck : Option Addr} {sl_ck : Array (Option Value)} {oc_ck kV_ck dc_ck pm_ck ct_ck : Value}
    {cd_ck : Value}
    {f_mi : Addr} {od_mi an_mi : Option Addr} {sl_mi : Array (Option Value)} {oc_mi kV_mi dc_mi pm_mi cd_mi ct_mi : Value}
    {f_si : Addr} {od_si an_si : Option Addr} {sl_si : Array (Option Value)} {oc_si kV_si dc_si pm_si cd_si ct_si : Value}
    {f_fi : Addr} {od_fi an_fi : Option Addr} {sl_fi : Array (Option Value)} {oc_fi kV_fi dc_fi pm_fi cd_fi ct_fi : Value}
    {f_cl : Addr} {od_cl an_cl : Option Addr} {sl_cl : Array (Option Value)} {oc_cl kV_cl dc_cl pm_cl ct_cl : Value}
    {cd_cl : Value}
    {f_cw : Addr} {od_cw an_cw : Option Addr} {sl_cw : Array (Option Value)} {oc_cw kV_cw dc_cw pm_cw ct_cw : Value}
    {cd_cw : Value}
    {f_cc : Addr} {od_cc an_cc : Option Addr} {sl_cc : Array (Option Value)} {oc_cc kV_cc dc_cc pm_cc ct_cc : Value}
    {cd_cc : Value}
    {f_cs : Addr} {od_cs an_cs : Option Addr} {sl_cs : Array (Option Value)} {oc_cs kV_cs dc_cs pm_cs ct_cs : Value}
    {cd_cs : Value}
    {f_pi : Addr} {od_pi an_pi : Option Addr} {sl_pi : Array (Option Value)} {oc_pi kV_pi dc_pi pm_pi cd_pi ct_pi : Value}
    {CO : Addr}
    {f_to : Addr} {od_to an_to : Option Addr} {sl_to : Array (Option Value)} {oc_to kV_to dc_to pm_to cd_to ct_to : Value}
    {f_me : Addr} {od_me an_me : Option Addr} {sl_me : Array (Option Value)} {oc_me kV_me dc_me pm_me cd_me ct_me : Value}
    {f_pa : Addr} {od_pa an_pa : Option Addr} {sl_pa : Array (Option Value)} {oc_pa kV_pa dc_pa pm_pa cd_pa ct_pa : Value}
    {f_se : Addr} {od_se an_se : Option Addr} {sl_se : Array (Option Value)} {oc_se kV_se dc_se pm_se cd_se ct_se : Value}
    {f_fq : Addr} {od_fq an_fq : Option Addr} {sl_fq : Array (Option Value)} {oc_fq kV_fq dc_fq pm_fq cd_fq ct_fq : Value}
    {f_ee : Addr} {od_ee an_ee : Option Addr} {sl_ee : Array (Option Value)} {oc_ee kV_ee dc_ee pm_ee cd_ee ct_ee : Value}
    {f_so : Addr} {od_so an_so : Option Addr} {sl_so : Array (Option Value)} {oc_so kV_so dc_so pm_so ct_so : Value}
    {cd_so : Value}
    {f_dr : Addr} {od_dr an_dr : Option Addr} {sl_dr : Array (Option Value)} {oc_dr kV_dr dc_dr pm_dr ct_dr : Value}
    {cd_dr : Value}
    {f_pk : Addr} {od_pk an_pk : Option Addr} {sl_pk : Array (Option Value)} {oc_pk kV_pk dc_pk pm_pk ct_pk : Value}
    {cd_pk : Value}
    {f_sz : Addr} {od_sz an_sz : Option Addr} {sl_sz : Array (Option Value)} {oc_sz kV_sz dc_sz pm_sz ct_sz : Value}
    {cd_sz : Value}
    {f_nu : Addr} {od_nu an_nu : Option Addr} {sl_nu : Array (Option Value)} {oc_nu kV_nu dc_nu pm_nu ct_nu : Value}
    {cd_nu : Value}
    {f_sp : Addr} {od_sp an_sp : Option Addr} {sl_sp : Array (Option Value)} {oc_sp kV_sp dc_sp pm_sp ct_sp : Value}
    {cd_sp : Value}
    {f_co : Addr} {od_co an_co : Option Addr} {sl_co : Array (Option Value)} {oc_co kV_co dc_co pm_co ct_co : Value}
    {cd_co : Value}
    {f_lp : Addr} {od_lp an_lp : Option Addr} {sl_lp : Array (Option Value)} {oc_lp kV_lp dc_lp pm_lp ct_lp : Value}
    {cd_lp : Value}
    {f_ou : Addr} {od_ou an_ou : Option Addr} {sl_ou : Array (Option Value)} {oc_ou kV_ou dc_ou pm_ou ct_ou : Value}
    {cd_ou : Value}
    {f_be : Addr} {od_be an_be : Option Addr} {sl_be : Array (Option Value)} {oc_be kV_be dc_be pm_be ct_be : Value}
    {cd_be : Value}
    {f_pr : Addr} {od_pr an_pr : Option Addr} {sl_pr : Array (Option Value)} {oc_pr kV_pr dc_pr pm_pr ct_pr : Value}
    {c_pr : Addr}
    {P_pr : Addr} {e_pr : Option Addr} {v_pr : Array Value} {u_pr : Array (Option Value)} {fl_pr : Str} {tf_pr tg_pr tt_pr : Tok} {gg_pr tx_pr : Int} {inf_pr : Bool}
    {f_ri : Addr} {od_ri an_ri : Option Addr} {sl_ri : Array (Option Value)} {oc_ri kV_ri dc_ri pm_ri ct_ri : Value}
    {c_ri : Addr}
    {P_ri : Addr} {e_ri : Option Addr} {v_ri : Array Value} {u_ri : Array (Option Value)} {fl_ri : Str} {tf_ri tg_ri tt_ri : Tok} {gg_ri tx_ri : Int} {inf_ri : Bool}
    {f_la : Addr} {od_la an_la : Option Addr} {sl_la : Array (Option Value)} {oc_la kV_la dc_la pm_la ct_la : Value}
    {cd_la : Value}
    (a_CS : PySem.W.nsIn K mainGlobals "StoreError" = some (some (.ref CS)))
    (a_CB : PySem.W.nsIn K mainGlobals "BadCount" = some (some (.ref CB)))
    (x_CB : K.lookup CB = some (excClassObj nm_CB qn_CB CB N_CB bs_CB bm_CB true sn_CB sub_CB ab_CB col_CB dd_CB m0_CB m1_CB m2_CB m3_CB m5_CB "ValueError.__new__"))
    (bm_CB' : PySem.HandSPX.refsVE bm_CB = true)
    (sa_CB : PySem.W.findIn K (.ref CB) "__setattr__" = some (some (.builtin "object.__setattr__")))
    (ga_CB : PySem.W.findIn K (.ref CB) "__getattribute__" = some (some (.builtin "BaseException.__getattribute__")))
    (gg_CB : PySem.W.findIn K (.ref CB) "__getattr__" = some none)
    (kC_CB : PySem.W.keepIn K (.ref CB) = true)
    (eC_CB : PySem.W.subIn K (.ref CB) (.type "BaseException") = some true)
    (tC_CB : PySem.W.typeIn K (.ref CB) = some (.type "type"))
    (hC_CB : PySem.W.hasDictIn K CB = true)
    (iC_CB : PySem.W.isClsIn K CB = true)
    (sC_CB : PySem.W.subIn K (.ref CB) (.ref CB) = some true)
    (n_CB_what : PySem.W.findIn K (.ref CB) "what" = some none)
    (n_CB_count : PySem.W.findIn K (.ref CB) "count" = some none)
    (a_badI : PySem.W.findIn K (.ref CB) "__init__" = some (some (.ref f_badI)))
    (t_badI : PySem.W.typeIn K (.ref f_badI) = some (.type "function"))
    (l_badI : K.lookup f_badI = some ⟨oc_badI, od_badI, .func (PySem.W.fnOf "__init__" "BadCount.__init__" (defArgs sBadI) (defBody sBadI) (defScope sBadI) .none kV_badI dc_badI pm_badI an_badI cd_badI ct_badI), sl_badI⟩)
    (c_of_badI : PySem.W.codeIn K cd_badI "BadCount.__init__" = true)
    (k_badI : PySem.W.keepIn K (.ref f_badI) = true)
    (a_CL : PySem.W.nsIn K mainGlobals "NoLine" = some (some (.ref CL)))
    (x_CL : K.lookup CL = some (excClassObj nm_CL qn_CL CL N_CL bs_CL bm_CL true sn_CL sub_CL ab_CL col_CL dd_CL m0_CL m1_CL m2_CL m3_CL m5_CL "ValueError.__new__"))
    (bm_CL' : PySem.HandSPX.refsVE bm_CL = true)
    (sa_CL : PySem.W.findIn K (.ref CL) "__setattr__" = some (some (.builtin "object.__setattr__")))
    (ga_CL : PySem.W.findIn K (.ref CL) "__getattribute__" = some (some (.builtin "BaseException.__getattribute__")))
    (gg_CL : PySem.W.findIn K (.ref CL) "__getattr__" = some none)
    (kC_CL : PySem.W.keepIn K (.ref CL) = true)
    (eC_CL : PySem.W.subIn K (.ref CL) (.type "BaseException") = some true)
    (tC_CL : PySem.W.typeIn K (.ref CL) = some (.type "type"))
    (hC_CL : PySem.W.hasDictIn K CL = true)
    (iC_CL : PySem.W.isClsIn K CL = true)
    (sC_CL : PySem.W.subIn K (.ref CL) (.ref CL) = some true)
    (n_CL_line : PySem.W.findIn K (.ref CL) "line" = some none)
    (a_nlI : PySem.W.findIn K (.ref CL) "__init__" = some (some (.ref f_nlI)))
    (t_nlI : PySem.W.typeIn K (.ref f_nlI) = some (.type "function"))
    (l_nlI : K.lookup f_nlI = some ⟨oc_nlI, od_nlI, .func (PySem.W.fnOf "__init__" "NoLine.__init__" (defArgs snlI) (defBody snlI) (defScope snlI) .none kV_nlI dc_nlI pm_nlI an_nlI cd_nlI ct_nlI), sl_nlI⟩)
    (c_of_nlI : PySem.W.codeIn K cd_nlI "NoLine.__init__" = true)
    (k_nlI : PySem.W.keepIn K (.ref f_nlI) = true)
    (a_CW : PySem.W.nsIn K mainGlobals "NoWord" = some (some (.ref CW)))
    (x_CW : K.lookup CW = some (excClassObj nm_CW qn_CW CW N_CW bs_CW bm_CW true sn_CW sub_CW ab_CW col_CW dd_CW m0_CW m1_CW m2_CW m3_CW m5_CW "ValueError.__new__"))
    (bm_CW' : PySem.HandSPX.refsVE bm_CW = true)
    (sa_CW : PySem.W.findIn K (.ref CW) "__setattr__" = some (some (.builtin "object.__setattr__")))
    (ga_CW : PySem.W.findIn K (.ref CW) "__getattribute__" = some (some (.builtin "BaseException.__getattribute__")))
    (gg_CW : PySem.W.findIn K (.ref CW) "__getattr__" = some none)
    (kC_CW : PySem.W.keepIn K (.ref CW) = true)
    (eC_CW : PySem.W.subIn K (.ref CW) (.type "BaseException") = some true)
    (tC_CW : PySem.W.typeIn K (.ref CW) = some (.type "type"))
    (hC_CW : PySem.W.hasDictIn K CW = true)
    (iC_CW : PySem.W.isClsIn K CW = true)
    (sC_CW : PySem.W.subIn K (.ref CW) (.ref CW) = some true)
    (n_CW_word : PySem.W.findIn K (.ref CW) "word" = some none)
    (a_nwI : PySem.W.findIn K (.ref CW) "__init__" = some (some (.ref f_nwI)))
    (t_nwI : PySem.W.typeIn K (.ref f_nwI) = some (.type "function"))
    (l_nwI : K.lookup f_nwI = some ⟨oc_nwI, od_nwI, .func (PySem.W.fnOf "__init__" "NoWord.__init__" (defArgs snwI) (defBody snwI) (defScope snwI) .none kV_nwI dc_nwI pm_nwI an_nwI cd_nwI ct_nwI), sl_nwI⟩)
    (c_of_nwI : PySem.W.codeIn K cd_nwI "NoWord.__init__" = true)
    (k_nwI : PySem.W.keepIn K (.ref f_nwI) = true)
    (z_abs : PySem.W.nsIn K mainGlobals "abs" = some none)
    (z_len : PySem.W.nsIn K mainGlobals "len" = some none)
    (z_range : PySem.W.nsIn K mainGlobals "range" = some none)
    (z_tuple : PySem.W.nsIn K mainGlobals "tuple" = some none)
    (z_list : PySem.W.nsIn K mainGlobals "list" = some none)
    (z_max : PySem.W.nsIn K mainGlobals "max" = some none)
    (z_isinstance : PySem.W.nsIn K mainGlobals "isinstance" = some none)
    (g_MOST_LINES : PySem.W.nsIn K mainGlobals "MOST_LINES" = some (some (.int 6 t_MOST_LINES)))
    (g_MOST_WORDS : PySem.W.nsIn K mainGlobals "MOST_WORDS" = some (some (.int 4 t_MOST_WORDS)))
    (g_MOST_COMMANDS : PySem.W.nsIn K mainGlobals "MOST_COMMANDS" = some (some (.int 200 t_MOST_COMMANDS)))
    (a_CM : PySem.W.nsIn K mainGlobals "Memory" = some (some (.ref CM)))
    (pg_CM : PySem.W.plainGet K CM Str.empty = true)
    (hd_CM : PySem.W.hasDictIn K CM = true)
    (po_CM : PySem.W.plainOver K CM = true)
    (sa_CM : PySem.W.findIn K (.ref CM) "__setattr__" = some (some (.builtin "object.__setattr__")))
    (mk_CM : PySem.W.makesIn K CM = true)
    (kc_CM : PySem.W.keepIn K (.ref CM) = true)
    (n_CM_sizes : PySem.W.findIn K (.ref CM) "sizes" = some none)
    (a_CT : PySem.W.nsIn K mainGlobals "Store" = some (some (.ref CT)))
    (pg_CT : PySem.W.plainGet K CT Str.empty = true)
    (hd_CT : PySem.W.hasDictIn K CT = true)
    (po_CT : PySem.W.plainOver K CT = true)
    (sa_CT : PySem.W.findIn K (.ref CT) "__setattr__" = some (some (.builtin "object.__setattr__")))
    (mk_CT : PySem.W.makesIn K CT = true)
    (kc_CT : PySem.W.keepIn K (.ref CT) = true)
    (n_CT_line : PySem.W.findIn K (.ref CT) "line" = some none)
    (n_CT_word : PySem.W.findIn K (.ref CT) "word" = some none)
    (n_CT_number : PySem.W.findIn K (.ref CT) "number" = some none)
    (a_CF : PySem.W.nsIn K mainGlobals "Flush" = some (some (.ref CF)))
    (pg_CF : PySem.W.plainGet K CF Str.empty = true)
    (hd_CF : PySem.W.hasDictIn K CF = true)
    (po_CF : PySem.W.plainOver K CF = true)
    (sa_CF : PySem.W.findIn K (.ref CF) "__setattr__" = some (some (.builtin "object.__setattr__")))
    (mk_CF : PySem.W.makesIn K CF = true)
    (kc_CF : PySem.W.keepIn K (.ref CF) = true)
    (n_CF_line : PySem.W.findIn K (.ref CF) "line" = some none)
    (a_CP : PySem.W.nsIn K mainGlobals "Program" = some (some (.ref CP)))
    (pg_CP : PySem.W.plainGet K CP Str.empty = true)
    (hd_CP : PySem.W.hasDictIn K CP = true)
    (po_CP : PySem.W.plainOver K CP = true)
    (sa_CP : PySem.W.findIn K (.ref CP) "__setattr__" = some (some (.builtin "object.__setattr__")))
    (mk_CP : PySem.W.makesIn K CP = true)
    (kc_CP : PySem.W.keepIn K (.ref CP) = true)
    (n_CP_memory : PySem.W.findIn K (.ref CP) "memory" = some none)
    (n_CP_commands : PySem.W.findIn K (.ref CP) "commands" = some none)
    (a_CE : PySem.W.nsIn K mainGlobals "Fence" = some (some (.ref CE)))
    (pg_CE : PySem.W.plainGet K CE Str.empty = true)
    (hd_CE : PySem.W.hasDictIn K CE = true)
    (po_CE : PySem.W.plainOver K CE = true)
    (sa_CE : PySem.W.findIn K (.ref CE) "__setattr__" = some (some (.builtin "object.__setattr__")))
    (mk_CE : PySem.W.makesIn K CE = true)
    (kc_CE : PySem.W.keepIn K (.ref CE) = true)
    (ie_CE : PySem.W.findIn K (.ref CE) "__init__" = some (some (.builtin "object.__init__")))
    (bi_n : PySem.W.specialIn K (.builtin "object.__class__") "__get__" = some (some (.builtin "getset_descriptor.__get__")))
    (bi_t : PySem.W.takesIn K (.builtin "object.__class__") = some true)
    (oh_CM : PySem.W.findIn K (.ref CM) "__class__" = some (some (.builtin "object.__class__")))
    (om_CM : PySem.W.mroIn K CM (.type "object") = some true)
    (oh_CT : PySem.W.findIn K (.ref CT) "__class__" = some (some (.builtin "object.__class__")))
    (om_CT : PySem.W.mroIn K CT (.type "object") = some true)
    (oh_CF : PySem.W.findIn K (.ref CF) "__class__" = some (some (.builtin "object.__class__")))
    (om_CF : PySem.W.mroIn K CF (.type "object") = some true)
    (oh_CE : PySem.W.findIn K (.ref CE) "__class__" = some (some (.builtin "object.__class__")))
    (om_CE : PySem.W.mroIn K CE (.type "object") = some true)
    (kc1_CT : PySem.W.isClsIn K CT = true)
    (kc2_CT : PySem.W.typeIn K (.ref CT) = some (.type "type"))
    (kc1_CF : PySem.W.isClsIn K CF = true)
    (kc2_CF : PySem.W.typeIn K (.ref CF) = some (.type "type"))
    (sb_CF_CT : PySem.W.subIn K (.ref CF) (.ref CT) = some false)
    (nq_CF_CT : CF ≠ CT)
    (sb_CE_CT : PySem.W.subIn K (.ref CE) (.ref CT) = some false)
    (nq_CE_CT : CE ≠ CT)
    (sb_CT_CF : PySem.W.subIn K (.ref CT) (.ref CF) = some false)
    (nq_CT_CF : CT ≠ CF)
    (sb_CE_CF : PySem.W.subIn K (.ref CE) (.ref CF) = some false)
    (nq_CE_CF : CE ≠ CF)
    (ne_PE : CP ≠ CE)
    (a_ck : PySem.W.nsIn K mainGlobals "check_sizes" = some (some (.ref f_ck)))
    (l_ck : K.lookup f_ck = some ⟨oc_ck, od_ck, .func (PySem.W.fnOf "check_sizes" "check_sizes" (defArgs sChk) (defBody sChk) (defScope sChk) .none kV_ck dc_ck pm_ck an_ck cd_ck ct_ck), sl_ck⟩)
    (c_of_ck : PySem.W.codeIn K cd_ck "check_sizes" = true)
    (k_ck : PySem.W.keepIn K (.ref f_ck) = true)
    (a_mi : PySem.W.findIn K (.ref CM) "__init__" = some (some (.ref f_mi)))
    (i_mi : PySem.W.isFn K (.ref f_mi) = true)
    (l_mi : K.lookup f_mi = some ⟨oc_mi, od_mi, .func (PySem.W.fnOf "__init__" "Memory.__init__" (defArgs sMemI) (defBody sMemI) (defScope sMemI) .none kV_mi dc_mi pm_mi an_mi cd_mi ct_mi), sl_mi⟩)
    (c_of_mi : PySem.W.codeIn K cd_mi "Memory.__init__" = true)
    (k_mi : PySem.W.keepIn K (.ref f_mi) = true)
    (a_si : PySem.W.findIn K (.ref CT) "__init__" = some (some (.ref f_si)))
    (i_si : PySem.W.isFn K (.ref f_si) = true)
    (l_si : K.lookup f_si = some ⟨oc_si, od_si, .func (PySem.W.fnOf "__init__" "Store.__init__" (defArgs sStoreI) (defBody sStoreI) (defScope sStoreI) .none kV_si dc_si pm_si an_si cd_si ct_si), sl_si⟩)
    (c_of_si : PySem.W.codeIn K cd_si "Store.__init__" = true)
    (k_si : PySem.W.keepIn K (.ref f_si) = true)
    (a_fi : PySem.W.findIn K (.ref CF) "__init__" = some (some (.ref f_fi)))
    (i_fi : PySem.W.isFn K (.ref f_fi) = true)
    (l_fi : K.lookup f_fi = some ⟨oc_fi, od_fi, .func (PySem.W.fnOf "__init__" "Flush.__init__" (defArgs sFlushI) (defBody sFlushI) (defScope sFlushI) .none kV_fi dc_fi pm_fi an_fi cd_fi ct_fi), sl_fi⟩)
    (c_of_fi : PySem.W.codeIn K cd_fi "Flush.__init__" = true)
    (k_fi : PySem.W.keepIn K (.ref f_fi) = true)
    (a_cl : PySem.W.nsIn K mainGlobals "check_line" = some (some (.ref f_cl)))
    (l_cl : K.lookup f_cl = some ⟨oc_cl, od_cl, .func (PySem.W.fnOf "check_line" "check_line" (defArgs sLine) (defBody sLine) (defScope sLine) .none kV_cl dc_cl pm_cl an_cl cd_cl ct_cl), sl_cl⟩)
    (c_of_cl : PySem.W.codeIn K cd_cl "check_line" = true)
    (k_cl : PySem.W.keepIn K (.ref f_cl) = true)
    (a_cw : PySem.W.nsIn K mainGlobals "check_word" = some (some (.ref f_cw)))
    (l_cw : K.lookup f_cw = some ⟨oc_cw, od_cw, .func (PySem.W.fnOf "check_word" "check_word" (defArgs sWord) (defBody sWord) (defScope sWord) .none kV_cw dc_cw pm_cw an_cw cd_cw ct_cw), sl_cw⟩)
    (c_of_cw : PySem.W.codeIn K cd_cw "check_word" = true)
    (k_cw : PySem.W.keepIn K (.ref f_cw) = true)
    (a_cc : PySem.W.nsIn K mainGlobals "check_command" = some (some (.ref f_cc)))
    (l_cc : K.lookup f_cc = some ⟨oc_cc, od_cc, .func (PySem.W.fnOf "check_command" "check_command" (defArgs sCmd) (defBody sCmd) (defScope sCmd) .none kV_cc dc_cc pm_cc an_cc cd_cc ct_cc), sl_cc⟩)
    (c_of_cc : PySem.W.codeIn K cd_cc "check_command" = true)
    (k_cc : PySem.W.keepIn K (.ref f_cc) = true)
    (a_cs : PySem.W.nsIn K mainGlobals "check_commands" = some (some (.ref f_cs)))
    (l_cs : K.lookup f_cs = some ⟨oc_cs, od_cs, .func (PySem.W.fnOf "check_commands" "check_commands" (defArgs sCmds) (defBody sCmds) (defScope sCmds) .none kV_cs dc_cs pm_cs an_cs cd_cs ct_cs), sl_cs⟩)
    (c_of_cs : PySem.W.codeIn K cd_cs "check_commands" = true)
    (k_cs : PySem.W.keepIn K (.ref f_cs) = true)
    (a_pi : PySem.W.findIn K (.ref CP) "__init__" = some (some (.ref f_pi)))
    (i_pi : PySem.W.isFn K (.ref f_pi) = true)
    (l_pi : K.lookup f_pi = some ⟨oc_pi, od_pi, .func (PySem.W.fnOf "__init__" "Program.__init__" (defArgs sProgI) (defBody sProgI) (defScope sProgI) .none kV_pi dc_pi pm_pi an_pi cd_pi ct_pi), sl_pi⟩)
    (c_of_pi : PySem.W.codeIn K cd_pi "Program.__init__" = true)
    (k_pi : PySem.W.keepIn K (.ref f_pi) = true)
    (a_CO : PySem.W.nsIn K mainGlobals "OtherMemory" = some (some (.ref CO)))
    (qO : PySem.W.excIn K CO [.type "ValueError", .type "Exception", .type "BaseException", .type "object"] "ValueError.__new__" = true)
    (kO : PySem.W.keepIn K (.ref CO) = true)
    (eO : PySem.W.subIn K (.ref CO) (.type "BaseException") = some true)
    (tO : PySem.W.typeIn K (.ref CO) = some (.type "type"))
    (hO : PySem.W.hasDictIn K CO = true)
    (gaO : PySem.W.findIn K (.ref CO) "__getattribute__" = some (some (.builtin "BaseException.__getattribute__")))
    (ggO : PySem.W.findIn K (.ref CO) "__getattr__" = some none)
    (a_to : PySem.W.findIn K (.ref CO) "told" = some (some (.ref f_to)))
    (i_to : PySem.W.isFn K (.ref f_to) = true)
    (l_to : K.lookup f_to = some ⟨oc_to, od_to, .func (PySem.W.fnOf "told" "OtherMemory.told" (defArgs sTold) (defBody sTold) (defScope sTold) .none kV_to dc_to pm_to an_to cd_to ct_to), sl_to⟩)
    (c_of_to : PySem.W.codeIn K cd_to "OtherMemory.told" = true)
    (k_to : PySem.W.keepIn K (.ref f_to) = true)
    (kpto : PySem.W.keepIn K (.ref f_to) = true)
    (a_me : PySem.W.findIn K (.ref CM) "__eq__" = some (some (.ref f_me)))
    (i_me : PySem.W.isFn K (.ref f_me) = true)
    (l_me : K.lookup f_me = some ⟨oc_me, od_me, .func (PySem.W.fnOf "__eq__" "Memory.__eq__" (defArgs sMemE) (defBody sMemE) (defScope sMemE) .none kV_me dc_me pm_me an_me cd_me ct_me), sl_me⟩)
    (c_of_me : PySem.W.codeIn K cd_me "Memory.__eq__" = true)
    (k_me : PySem.W.keepIn K (.ref f_me) = true)
    (hne_CM : PySem.W.findIn K (.ref CM) "__ne__" = some (some (.builtin "object.__ne__")))
    (a_pa : PySem.W.findIn K (.ref CP) "__add__" = some (some (.ref f_pa)))
    (i_pa : PySem.W.isFn K (.ref f_pa) = true)
    (l_pa : K.lookup f_pa = some ⟨oc_pa, od_pa, .func (PySem.W.fnOf "__add__" "Program.__add__" (defArgs sProgA) (defBody sProgA) (defScope sProgA) .none kV_pa dc_pa pm_pa an_pa cd_pa ct_pa), sl_pa⟩)
    (c_of_pa : PySem.W.codeIn K cd_pa "Program.__add__" = true)
    (k_pa : PySem.W.keepIn K (.ref f_pa) = true)
    (sf_CP : PySem.W.selfFirst K CP = true)
    (kc1_CE : PySem.W.isClsIn K CE = true)
    (kc2_CE : PySem.W.typeIn K (.ref CE) = some (.type "type"))
    (sb_CT_CE : PySem.W.subIn K (.ref CT) (.ref CE) = some false)
    (nq_CT_CE : CT ≠ CE)
    (sb_CF_CE : PySem.W.subIn K (.ref CF) (.ref CE) = some false)
    (nq_CF_CE : CF ≠ CE)
    (a_se : PySem.W.findIn K (.ref CT) "__eq__" = some (some (.ref f_se)))
    (i_se : PySem.W.isFn K (.ref f_se) = true)
    (l_se : K.lookup f_se = some ⟨oc_se, od_se, .func (PySem.W.fnOf "__eq__" "Store.__eq__" (defArgs sStoreE) (defBody sStoreE) (defScope sStoreE) .none kV_se dc_se pm_se an_se cd_se ct_se), sl_se⟩)
    (c_of_se : PySem.W.codeIn K cd_se "Store.__eq__" = true)
    (k_se : PySem.W.keepIn K (.ref f_se) = true)
    (a_fq : PySem.W.findIn K (.ref CF) "__eq__" = some (some (.ref f_fq)))
    (i_fq : PySem.W.isFn K (.ref f_fq) = true)
    (l_fq : K.lookup f_fq = some ⟨oc_fq, od_fq, .func (PySem.W.fnOf "__eq__" "Flush.__eq__" (defArgs sFlushE) (defBody sFlushE) (defScope sFlushE) .none kV_fq dc_fq pm_fq an_fq cd_fq ct_fq), sl_fq⟩)
    (c_of_fq : PySem.W.codeIn K cd_fq "Flush.__eq__" = true)
    (k_fq : PySem.W.keepIn K (.ref f_fq) = true)
    (a_ee : PySem.W.findIn K (.ref CE) "__eq__" = some (some (.ref f_ee)))
    (i_ee : PySem.W.isFn K (.ref f_ee) = true)
    (l_ee : K.lookup f_ee = some ⟨oc_ee, od_ee, .func (PySem.W.fnOf "__eq__" "Fence.__eq__" (defArgs sFenceE) (defBody sFenceE) (defScope sFenceE) .none kV_ee dc_ee pm_ee an_ee cd_ee ct_ee), sl_ee⟩)
    (c_of_ee : PySem.W.codeIn K cd_ee "Fence.__eq__" = true)
    (k_ee : PySem.W.keepIn K (.ref f_ee) = true)
    (a_so : PySem.W.nsIn K mainGlobals "_law_source" = some (some (.ref f_so)))
    (l_so : K.lookup f_so = some ⟨oc_so, od_so, .func (PySem.W.fnOf "_law_source" "_law_source" (defArgs sSource) (defBody sSource) (defScope sSource) .none kV_so dc_so pm_so an_so cd_so ct_so), sl_so⟩)
    (c_of_so : PySem.W.codeIn K cd_so "_law_source" = true)
    (k_so : PySem.W.keepIn K (.ref f_so) = true)
    (a_dr : PySem.W.nsIn K mainGlobals "_law_draw" = some (some (.ref f_dr)))
    (l_dr : K.lookup f_dr = some ⟨oc_dr, od_dr, .func (PySem.W.fnOf "_law_draw" "_law_draw" (defArgs sDraw) (defBody sDraw) (defScope sDraw) .none kV_dr dc_dr pm_dr an_dr cd_dr ct_dr), sl_dr⟩)
    (c_of_dr : PySem.W.codeIn K cd_dr "_law_draw" = true)
    (k_dr : PySem.W.keepIn K (.ref f_dr) = true)
    (a_pk : PySem.W.nsIn K mainGlobals "_law_pick" = some (some (.ref f_pk)))
    (l_pk : K.lookup f_pk = some ⟨oc_pk, od_pk, .func (PySem.W.fnOf "_law_pick" "_law_pick" (defArgs sPick) (defBody sPick) (defScope sPick) .none kV_pk dc_pk pm_pk an_pk cd_pk ct_pk), sl_pk⟩)
    (c_of_pk : PySem.W.codeIn K cd_pk "_law_pick" = true)
    (k_pk : PySem.W.keepIn K (.ref f_pk) = true)
    (a_sz : PySem.W.nsIn K mainGlobals "_law_sizes" = some (some (.ref f_sz)))
    (l_sz : K.lookup f_sz = some ⟨oc_sz, od_sz, .func (PySem.W.fnOf "_law_sizes" "_law_sizes" (defArgs sSizes) (defBody sSizes) (defScope sSizes) .none kV_sz dc_sz pm_sz an_sz cd_sz ct_sz), sl_sz⟩)
    (c_of_sz : PySem.W.codeIn K cd_sz "_law_sizes" = true)
    (k_sz : PySem.W.keepIn K (.ref f_sz) = true)
    (a_nu : PySem.W.nsIn K mainGlobals "_law_number" = some (some (.ref f_nu)))
    (l_nu : K.lookup f_nu = some ⟨oc_nu, od_nu, .func (PySem.W.fnOf "_law_number" "_law_number" (defArgs sNum) (defBody sNum) (defScope sNum) .none kV_nu dc_nu pm_nu an_nu cd_nu ct_nu), sl_nu⟩)
    (c_of_nu : PySem.W.codeIn K cd_nu "_law_number" = true)
    (k_nu : PySem.W.keepIn K (.ref f_nu) = true)
    (a_sp : PySem.W.nsIn K mainGlobals "_law_specs" = some (some (.ref f_sp)))
    (l_sp : K.lookup f_sp = some ⟨oc_sp, od_sp, .func (PySem.W.fnOf "_law_specs" "_law_specs" (defArgs sSpecs) (defBody sSpecs) (defScope sSpecs) .none kV_sp dc_sp pm_sp an_sp cd_sp ct_sp), sl_sp⟩)
    (c_of_sp : PySem.W.codeIn K cd_sp "_law_specs" = true)
    (k_sp : PySem.W.keepIn K (.ref f_sp) = true)
    (a_co : PySem.W.nsIn K mainGlobals "_law_command" = some (some (.ref f_co)))
    (l_co : K.lookup f_co = some ⟨oc_co, od_co, .func (PySem.W.fnOf "_law_command" "_law_command" (defArgs sComm) (defBody sComm) (defScope sComm) .none kV_co dc_co pm_co an_co cd_co ct_co), sl_co⟩)
    (c_of_co : PySem.W.codeIn K cd_co "_law_command" = true)
    (k_co : PySem.W.keepIn K (.ref f_co) = true)
    (a_lp : PySem.W.nsIn K mainGlobals "_law_program" = some (some (.ref f_lp)))
    (l_lp : K.lookup f_lp = some ⟨oc_lp, od_lp, .func (PySem.W.fnOf "_law_program" "_law_program" (defArgs sLProg) (defBody sLProg) (defScope sLProg) .none kV_lp dc_lp pm_lp an_lp cd_lp ct_lp), sl_lp⟩)
    (c_of_lp : PySem.W.codeIn K cd_lp "_law_program" = true)
    (k_lp : PySem.W.keepIn K (.ref f_lp) = true)
    (a_ou : PySem.W.nsIn K mainGlobals "_law_outcome" = some (some (.ref f_ou)))
    (l_ou : K.lookup f_ou = some ⟨oc_ou, od_ou, .func (PySem.W.fnOf "_law_outcome" "_law_outcome" (defArgs sOut) (defBody sOut) (defScope sOut) .none kV_ou dc_ou pm_ou an_ou cd_ou ct_ou), sl_ou⟩)
    (c_of_ou : PySem.W.codeIn K cd_ou "_law_outcome" = true)
    (k_ou : PySem.W.keepIn K (.ref f_ou) = true)
    (e_CS : PySem.W.subIn K (.ref CS) (.type "BaseException") = some true)
    (i_CS : PySem.W.isClsIn K CS = true)
    (t_CS : PySem.W.typeIn K (.ref CS) = some (.type "type"))
    (xs_CL_CB : PySem.W.subIn K (.ref CL) (.ref CB) = some false)
    (xs_CW_CB : PySem.W.subIn K (.ref CW) (.ref CB) = some false)
    (xs_CW_CL : PySem.W.subIn K (.ref CW) (.ref CL) = some false)
    (xs_CO_CB : PySem.W.subIn K (.ref CO) (.ref CB) = some false)
    (xs_CO_CL : PySem.W.subIn K (.ref CO) (.ref CL) = some false)
    (xs_CO_CW : PySem.W.subIn K (.ref CO) (.ref CW) = some false)
    (xs_CO_CS : PySem.W.subIn K (.ref CO) (.ref CS) = some true)
    (a_be : PySem.W.nsIn K mainGlobals "_law_bent" = some (some (.ref f_be)))
    (l_be : K.lookup f_be = some ⟨oc_be, od_be, .func (PySem.W.fnOf "_law_bent" "_law_bent" (defArgs sBent) (defBody sBent) (defScope sBent) .none kV_be dc_be pm_be an_be cd_be ct_be), sl_be⟩)
    (c_of_be : PySem.W.codeIn K cd_be "_law_bent" = true)
    (k_be : PySem.W.keepIn K (.ref f_be) = true)
    (a_pr : PySem.W.nsIn K mainGlobals "_law_parts_right" = some (some (.ref f_pr)))
    (l_pr : K.lookup f_pr = some ⟨oc_pr, od_pr, .func (PySem.W.fnOf "_law_parts_right" "_law_parts_right" (defArgs sParts) (defBody sParts) (defScope sParts) .none kV_pr dc_pr pm_pr an_pr (.ref c_pr) ct_pr), sl_pr⟩)
    (c_of_pr : PySem.W.codeIn K (.ref c_pr) "_law_parts_right" = true)
    (k_pr : PySem.W.keepIn K (.ref f_pr) = true)
    (lc_pr : K.lookup c_pr = some ⟨.type "code", e_pr, .fields v_pr, u_pr⟩)
    (v11_pr : v_pr[11]? = some (.ref P_pr))
    (v18_pr : v_pr.getD 18 .none = .str fl_pr tf_pr)
    (v7_pr : v_pr.getD 7 .none = .int gg_pr tg_pr)
    (v9_pr : v_pr.getD 9 .none = .bool inf_pr)
    (v10_pr : v_pr.getD 10 .none = .int tx_pr tt_pr)
    (ne_pr : c_pr ≠ P_pr)
    (nP_pr : K.lookup P_pr = none)
    (tP_pr : P_pr ∈ ts)
    (a_ri : PySem.W.nsIn K mainGlobals "_law_right" = some (some (.ref f_ri)))
    (l_ri : K.lookup f_ri = some ⟨oc_ri, od_ri, .func (PySem.W.fnOf "_law_right" "_law_right" (defArgs sRight) (defBody sRight) (defScope sRight) .none kV_ri dc_ri pm_ri an_ri (.ref c_ri) ct_ri), sl_ri⟩)
    (c_of_ri : PySem.W.codeIn K (.ref c_ri) "_law_right" = true)
    (k_ri : PySem.W.keepIn K (.ref f_ri) = true)
    (lc_ri : K.lookup c_ri = some ⟨.type "code", e_ri, .fields v_ri, u_ri⟩)
    (v11_ri : v_ri[11]? = some (.ref P_ri))
    (v18_ri : v_ri.getD 18 .none = .str fl_ri tf_ri)
    (v7_ri : v_ri.getD 7 .none = .int gg_ri tg_ri)
    (v9_ri : v_ri.getD 9 .none = .bool inf_ri)
    (v10_ri : v_ri.getD 10 .none = .int tx_ri tt_ri)
    (ne_ri : c_ri ≠ P_ri)
    (nP_ri : K.lookup P_ri = none)
    (tP_ri : P_ri ∈ ts)
    (nq_pr_ri : P_pr ≠ P_ri)
    (a_la : PySem.W.nsIn K mainGlobals "law" = some (some (.ref f_la)))
    (l_la : K.lookup f_la = some ⟨oc_la, od_la, .func (PySem.W.fnOf "law" "law" (defArgs sLaw) (defBody sLaw) (defScope sLaw) .none kV_la dc_la pm_la an_la cd_la ct_la), sl_la⟩)
    (c_of_la : PySem.W.codeIn K cd_la "law" = true)
    (k_la : PySem.W.keepIn K (.ref f_la) = true) :
    LawAtS l w K CX0 14 63 "_law_script" mg fa h := by
  have e := hfa.symm.trans (PySem.W.mg_of X G a_la)
  cases e
  have code_pr : PySem.W.CodeHd h c_pr P_pr := ⟨_, v_pr, _, _, _, _, _, _, _, X _ _ lc_pr, rfl, rfl, v11_pr, by rw [Array.getD_eq_getD_getElem?, v11_pr]; rfl, v18_pr, v7_pr, v9_pr, v10_pr, ne_pr⟩
  have code_ri : PySem.W.CodeHd h c_ri P_ri := ⟨_, v_ri, _, _, _, _, _, _, _, X _ _ lc_ri, rfl, rfl, v11_ri, by rw [Array.getD_eq_getD_getElem?, v11_ri]; rfl, v18_ri, v7_ri, v9_ri, v10_ri, ne_ri⟩
  have FbadI := fun_mk (st := sBadI) l_badI c_of_badI k_badI
  have FnlI := fun_mk (st := snlI) l_nlI c_of_nlI k_nlI
  have FnwI := fun_mk (st := snwI) l_nwI c_of_nwI k_nwI
  have Fck := fun_mk (st := sChk) l_ck c_of_ck k_ck
  have Fmi := fun_mk (st := sMemI) l_mi c_of_mi k_mi
  have Fsi := fun_mk (st := sStoreI) l_si c_of_si k_si
  have Ffi := fun_mk (st := sFlushI) l_fi c_of_fi k_fi
  have Fcl := fun_mk (st := sLine) l_cl c_of_cl k_cl
  have Fcw := fun_mk (st := sWord) l_cw c_of_cw k_cw
  have Fcc := fun_mk (st := sCmd) l_cc c_of_cc k_cc
  have Fcs := fun_mk (st := sCmds) l_cs c_of_cs k_cs
  have Fpi := fun_mk (st := sProgI) l_pi c_of_pi k_pi
  have Fto := fun_mk (st := sTold) l_to c_of_to k_to
  have Fme := fun_mk (st := sMemE) l_me c_of_me k_me
  have Fpa := fun_mk (st := sProgA) l_pa c_of_pa k_pa
  have Fse := fun_mk (st := sStoreE) l_se c_of_se k_se
  have Ffq := fun_mk (st := sFlushE) l_fq c_of_fq k_fq
  have Fee := fun_mk (st := sFenceE) l_ee c_of_ee k_ee
  have Fso := fun_mk (st := sSource) l_so c_of_so k_so
  have Fdr := fun_mk (st := sDraw) l_dr c_of_dr k_dr
  have Fpk := fun_mk (st := sPick) l_pk c_of_pk k_pk
  have Fsz := fun_mk (st := sSizes) l_sz c_of_sz k_sz
  have Fnu := fun_mk (st := sNum) l_nu c_of_nu k_nu
  have Fsp := fun_mk (st := sSpecs) l_sp c_of_sp k_sp
  have Fco := fun_mk (st := sComm) l_co c_of_co k_co
  have Flp := fun_mk (st := sLProg) l_lp c_of_lp k_lp
  have Fou := fun_mk (st := sOut) l_ou c_of_ou k_ou
  have Fbe := fun_mk (st := sBent) l_be c_of_be k_be
  have Fla := fun_mk (st := sLaw) l_la c_of_la k_la
  refine ⟨PySem.W.fnOf "law" "law" (defArgs sLaw) (defBody sLaw) (defScope sLaw) .none kV_la dc_la pm_la an_la cd_la ct_la, [(c_pr, P_pr), (c_ri, P_ri)], spLaw K (tabs4 P_pr P_ri), ?_, ?_, ?_, fun s u => .of_eq (by rfl), ?_, fun base Kb Gb TBs => ?_⟩
  · intro p hp
    simp only [List.mem_cons, List.not_mem_nil, or_false] at hp
    rcases hp with rfl | rfl
    · exact hT _ tP_pr
    · exact hT _ tP_ri
  · intro p hp
    simp only [List.mem_cons, List.not_mem_nil, or_false] at hp
    rcases hp with rfl | rfl
    · exact nP_pr
    · exact nP_ri
  · intro p hp
    simp only [List.mem_cons, List.not_mem_nil, or_false] at hp
    rcases hp with rfl | rfl
    · exact code_pr
    · exact code_ri
  · intro H a ns hl _ ht hS
    refine ⟨a, ns, rfl, hS, hl, fun p hp => ?_, fun _ => rfl⟩
    simp only [tabs4, List.mem_cons, List.not_mem_nil, or_false] at hp
    rcases hp with rfl | rfl
    · exact TabS.nil (ht (c_pr, P_pr) (by simp))
    · exact TabS.nil (ht (c_ri, P_ri) (by simp))
  · have oCB : OexC K CB := ⟨⟨nm_CB, qn_CB, N_CB, bs_CB, bm_CB, sn_CB, sub_CB, ab_CB, col_CB, dd_CB, m0_CB, m1_CB, m2_CB, m3_CB, m5_CB, x_CB, bm_CB'⟩, sa_CB, eC_CB, tC_CB, kC_CB⟩
    have ECB : Err l.prog w K mg base "BadCount" CB 1 ["self", "what", "count"] (spInit2 CB "what" "count") :=
      ⟨oCB, _, _, a_badI, t_badI, ok_badI FbadI oCB n_CB_what n_CB_count, PySem.W.mg_of X G a_CB, FbadI.binds (ps := ["self", "what", "count"]) fun _ _ _ _ _ _ us hl => match us, hl with | [_, _, _], _ => rfl⟩
    have oCL : OexC K CL := ⟨⟨nm_CL, qn_CL, N_CL, bs_CL, bm_CL, sn_CL, sub_CL, ab_CL, col_CL, dd_CL, m0_CL, m1_CL, m2_CL, m3_CL, m5_CL, x_CL, bm_CL'⟩, sa_CL, eC_CL, tC_CL, kC_CL⟩
    have ECL : Err l.prog w K mg base "NoLine" CL 1 ["self", "line"] (spInit1 CL "line") :=
      ⟨oCL, _, _, a_nlI, t_nlI, ok_nlI FnlI oCL n_CL_line, PySem.W.mg_of X G a_CL, FnlI.binds (ps := ["self", "line"]) fun _ _ _ _ _ _ us hl => match us, hl with | [_, _], _ => rfl⟩
    have oCW : OexC K CW := ⟨⟨nm_CW, qn_CW, N_CW, bs_CW, bm_CW, sn_CW, sub_CW, ab_CW, col_CW, dd_CW, m0_CW, m1_CW, m2_CW, m3_CW, m5_CW, x_CW, bm_CW'⟩, sa_CW, eC_CW, tC_CW, kC_CW⟩
    have ECW : Err l.prog w K mg base "NoWord" CW 1 ["self", "word"] (spInit1 CW "word") :=
      ⟨oCW, _, _, a_nwI, t_nwI, ok_nwI FnwI oCW n_CW_word, PySem.W.mg_of X G a_CW, FnwI.binds (ps := ["self", "word"]) fun _ _ _ _ _ _ us hl => match us, hl with | [_, _], _ => rfl⟩
    have cCM : Cls K CM := ⟨pg_CM, hd_CM, po_CM, sa_CM⟩
    have cCT : Cls K CT := ⟨pg_CT, hd_CT, po_CT, sa_CT⟩
    have cCF : Cls K CF := ⟨pg_CF, hd_CF, po_CF, sa_CF⟩
    have cCE : Cls K CE := ⟨pg_CE, hd_CE, po_CE, sa_CE⟩
    have cCP : Cls K CP := ⟨pg_CP, hd_CP, po_CP, sa_CP⟩
    have wCM : OwnC K CM := ⟨cCM, oh_CM, bi_n, bi_t, om_CM⟩
    have wCT : OwnC K CT := ⟨cCT, oh_CT, bi_n, bi_t, om_CT⟩
    have wCF : OwnC K CF := ⟨cCF, oh_CF, bi_n, bi_t, om_CF⟩
    have wCE : OwnC K CE := ⟨cCE, oh_CE, bi_n, bi_t, om_CE⟩
    let d : Ad := ⟨CT, CF, CE, CM, CP, CB, CL, CW, CL⟩
    have TP : TProg K mg d :=
      ⟨PySem.W.mg_none_of X G z_len, PySem.W.mg_none_of X G z_isinstance, PySem.W.mg_none_of X G z_tuple, PySem.W.mg_none_of X G z_list, ⟨_, PySem.W.mg_of X G g_MOST_COMMANDS⟩, PySem.W.mg_of X G a_CT, PySem.W.mg_of X G a_CF, cCM, cCP, n_CM_sizes, n_CP_memory, n_CP_commands,
        fun c => (match c with | .store _ _ _ => wCT | .flush _ => wCF | .fence => wCE),
        fun c => (match c with | .store _ _ _ => kit_self | .flush _ => kit_no nq_CF_CT kc1_CT kc2_CT sb_CF_CT | .fence => kit_no nq_CE_CT kc1_CT kc2_CT sb_CE_CT),
        fun c => (match c with | .store _ _ _ => kit_no nq_CT_CF kc1_CF kc2_CF sb_CT_CF | .flush _ => kit_self | .fence => kit_no nq_CE_CF kc1_CF kc2_CF sb_CE_CF),
        n_CT_line, n_CT_word, n_CT_number, n_CF_line, ne_PE⟩
    have TM : TMem K mg CM := ⟨PySem.W.mg_none_of X G z_tuple, cCM, n_CM_sizes⟩
    have Cck : Cal l.prog w K mg base (L2.CX l.prog w) "check_sizes" 3 ["sizes"] (spChkSizes K CB) :=
      ⟨_, _, ok_chk Fck ⟨PySem.W.mg_none_of X G z_len, ⟨_, PySem.W.mg_of X G g_MOST_LINES⟩, ⟨_, PySem.W.mg_of X G g_MOST_WORDS⟩⟩ ECB, PySem.W.mg_of X G a_ck, k_ck, Fck.binds (ps := ["sizes"]) fun _ _ _ _ _ _ us hl => match us, hl with | [_], _ => rfl⟩
    have Mmi : Mak l.prog w K mg base (L2.CX l.prog w) "Memory" CM 4 ["self", "sizes"] (spMemInit K CB CM) :=
      ⟨_, _, ⟨mk_CM, a_mi, i_mi, kc_CM⟩, ok_memI Fmi TM Cck, PySem.W.mg_of X G a_CM, Fmi.binds (ps := ["self", "sizes"]) fun _ _ _ _ _ _ us hl => match us, hl with | [_, _], _ => rfl⟩
    have Msi : Mak l.prog w K mg base CX0 "Store" CT 1 ["self", "line", "word", "number"] (spStoreI d) :=
      ⟨_, _, ⟨mk_CT, a_si, i_si, kc_CT⟩, ok_storeI Fsi cCT n_CT_line n_CT_word n_CT_number, PySem.W.mg_of X G a_CT, Fsi.binds (ps := ["self", "line", "word", "number"]) fun _ _ _ _ _ _ us hl => match us, hl with | [_, _, _, _], _ => rfl⟩
    have Mfi : Mak l.prog w K mg base CX0 "Flush" CF 1 ["self", "line"] (spFlushI d) :=
      ⟨_, _, ⟨mk_CF, a_fi, i_fi, kc_CF⟩, ok_flushI Ffi cCF n_CF_line, PySem.W.mg_of X G a_CF, Ffi.binds (ps := ["self", "line"]) fun _ _ _ _ _ _ us hl => match us, hl with | [_, _], _ => rfl⟩
    have BF : Bare K mg "Fence" CE := ⟨PySem.W.mg_of X G a_CE, mk_CE, ie_CE, kc_CE, om_CE⟩
    have Ccl : Cal l.prog w K mg base (L2.CX l.prog w) "check_line" 3 ["memory", "line"] (spLine d) :=
      ⟨_, _, ok_line Fcl TP ECL, PySem.W.mg_of X G a_cl, k_cl, Fcl.binds (ps := ["memory", "line"]) fun _ _ _ _ _ _ us hl => match us, hl with | [_, _], _ => rfl⟩
    have Ccw : Cal l.prog w K mg base (L2.CX l.prog w) "check_word" 4 ["memory", "line", "word"] (spWord d) :=
      ⟨_, _, ok_word Fcw TP Ccl ECW, PySem.W.mg_of X G a_cw, k_cw, Fcw.binds (ps := ["memory", "line", "word"]) fun _ _ _ _ _ _ us hl => match us, hl with | [_, _, _], _ => rfl⟩
    have Ccc : Cal l.prog w K mg base (L2.CX l.prog w) "check_command" 5 ["memory", "command"] (spCmd d) :=
      ⟨_, _, ok_cmd Fcc TP Ccl Ccw, PySem.W.mg_of X G a_cc, k_cc, Fcc.binds (ps := ["memory", "command"]) fun _ _ _ _ _ _ us hl => match us, hl with | [_, _], _ => rfl⟩
    have Ccs : Cal l.prog w K mg base (L2.CX l.prog w) "check_commands" 6 ["memory", "commands"] (spCmds d K) :=
      ⟨_, _, ok_cmds Fcs TP ECB Ccc, PySem.W.mg_of X G a_cs, k_cs, Fcs.binds (ps := ["memory", "commands"]) fun _ _ _ _ _ _ us hl => match us, hl with | [_, _], _ => rfl⟩
    have Mpi : Mak l.prog w K mg base (L2.CX l.prog w) "Program" CP 7 ["self", "memory", "commands"] (spProgI d K) :=
      ⟨_, _, ⟨mk_CP, a_pi, i_pi, kc_CP⟩, ok_progI Fpi TP Ccs, PySem.W.mg_of X G a_CP, Fpi.binds (ps := ["self", "memory", "commands"]) fun _ _ _ _ _ _ us hl => match us, hl with | [_, _, _], _ => rfl⟩
    have TOm : TOM K mg CO := ⟨qO, PySem.W.mg_of X G a_CO, kO, eO, tO⟩
    have Dme : Dun l.prog w K mg base CX0 CM "__eq__" 1 ["self", "other"] (spMemEq d) :=
      ⟨_, _, ok_memE Fme TP (PySem.W.mg_of X G a_CM) wCM, a_me, i_me, Fme.binds (ps := ["self", "other"]) fun _ _ _ _ _ _ us hl => match us, hl with | [_, _], _ => rfl⟩
    have Dpa : Dun l.prog w K mg base (L2.CX l.prog w) CP "__add__" 9 ["self", "other"] (spAddX d CO) :=
      ⟨_, _, ok_progA Fpa TP TOm Dme hne_CM om_CM Mpi, a_pa, i_pa, Fpa.binds (ps := ["self", "other"]) fun _ _ _ _ _ _ us hl => match us, hl with | [_, _], _ => rfl⟩
    have TFE : TFe K mg d := ⟨PySem.W.mg_of X G a_CE, fun c => (match c with | .store _ _ _ => kit_no nq_CT_CE kc1_CE kc2_CE sb_CT_CE | .flush _ => kit_no nq_CF_CE kc1_CE kc2_CE sb_CF_CE | .fence => kit_self)⟩
    have Dse : Dun l.prog w K mg base CX0 CT "__eq__" 1 ["self", "other"] (spCmdEq d isSt) :=
      ⟨_, _, ok_storeE Fse TP, a_se, i_se, Fse.binds (ps := ["self", "other"]) fun _ _ _ _ _ _ us hl => match us, hl with | [_, _], _ => rfl⟩
    have Dfq : Dun l.prog w K mg base CX0 CF "__eq__" 1 ["self", "other"] (spCmdEq d isFl) :=
      ⟨_, _, ok_flushE Ffq TP, a_fq, i_fq, Ffq.binds (ps := ["self", "other"]) fun _ _ _ _ _ _ us hl => match us, hl with | [_, _], _ => rfl⟩
    have Dee : Dun l.prog w K mg base CX0 CE "__eq__" 1 ["self", "other"] (spCmdEq d isFe) :=
      ⟨_, _, ok_fenceE Fee TP TFE, a_ee, i_ee, Fee.binds (ps := ["self", "other"]) fun _ _ _ _ _ _ us hl => match us, hl with | [_, _], _ => rfl⟩
    have TQ : TEqs l.prog w K mg base d := ⟨Dse, Dfq, Dee⟩
    have Cso : Cal l.prog w K mg base CX0 "_law_source" 1 ["_law_cell"] spSource :=
      ⟨_, _, ok_source Fso ⟨PySem.W.mg_none_of X G z_abs⟩, PySem.W.mg_of X G a_so, k_so, Fso.binds (ps := ["_law_cell"]) fun _ _ _ _ _ _ us hl => match us, hl with | [_], _ => rfl⟩
    have Cdr : Cal l.prog w K mg base CX0 "_law_draw" 1 ["_law_source_here", "_law_many"] spDraw :=
      ⟨_, _, ok_draw Fdr, PySem.W.mg_of X G a_dr, k_dr, Fdr.binds (ps := ["_law_source_here", "_law_many"]) fun _ _ _ _ _ _ us hl => match us, hl with | [_, _], _ => rfl⟩
    have Cpk : Cal l.prog w K mg base CX0 "_law_pick" 2 ["_law_source_here", "_law_items"] (spPick K) :=
      ⟨_, _, ok_pick Fpk ⟨PySem.W.mg_none_of X G z_len⟩ Cdr, PySem.W.mg_of X G a_pk, k_pk, Fpk.binds (ps := ["_law_source_here", "_law_items"]) fun _ _ _ _ _ _ us hl => match us, hl with | [_, _], _ => rfl⟩
    have Csz : Cal l.prog w K mg base CX0 "_law_sizes" 2 ["_law_source_here", "_law_most"] spSizes :=
      ⟨_, _, ok_sizes Fsz ⟨PySem.W.mg_none_of X G z_range⟩ Cdr, PySem.W.mg_of X G a_sz, k_sz, Fsz.binds (ps := ["_law_source_here", "_law_most"]) fun _ _ _ _ _ _ us hl => match us, hl with | [_, _], _ => rfl⟩
    have Cnu : Cal l.prog w K mg base CX0 "_law_number" 3 ["_law_source_here"] spNumber :=
      ⟨_, _, ok_num Fnu Cdr Cpk, PySem.W.mg_of X G a_nu, k_nu, Fnu.binds (ps := ["_law_source_here"]) fun _ _ _ _ _ _ us hl => match us, hl with | [_], _ => rfl⟩
    have Csp : Cal l.prog w K mg base CX0 "_law_specs" 4 ["_law_source_here", "_law_sizes_so", "_law_least", "_law_most"] spSpecs :=
      ⟨_, _, ok_specs Fsp ⟨PySem.W.mg_none_of X G z_range⟩ ⟨PySem.W.mg_none_of X G z_len⟩ Cdr Cpk Cnu, PySem.W.mg_of X G a_sp, k_sp, Fsp.binds (ps := ["_law_source_here", "_law_sizes_so", "_law_least", "_law_most"]) fun _ _ _ _ _ _ us hl => match us, hl with | [_, _, _, _], _ => rfl⟩
    have Cco : Cal l.prog w K mg base CX0 "_law_command" 3 ["_law_spec"] (spCommand d) :=
      ⟨_, _, ok_comm Fco Msi Mfi BF, PySem.W.mg_of X G a_co, k_co, Fco.binds (ps := ["_law_spec"]) fun _ _ _ _ _ _ us hl => match us, hl with | [_], _ => rfl⟩
    have Clp : Cal l.prog w K mg base (L2.CX l.prog w) "_law_program" 9 ["_law_sizes_so", "_law_specs_here"] (spProgramX d) :=
      ⟨_, _, ok_lprog Flp Mmi Mpi Cco, PySem.W.mg_of X G a_lp, k_lp, Flp.binds (ps := ["_law_sizes_so", "_law_specs_here"]) fun _ _ _ _ _ _ us hl => match us, hl with | [_, _], _ => rfl⟩
    have TR : TOutc l.prog w K mg base d CO CS :=
      ⟨⟨ga_CB, gg_CB, eC_CB, hC_CB⟩, ⟨ga_CL, gg_CL, eC_CL, hC_CL⟩, ⟨ga_CW, gg_CW, eC_CW, hC_CW⟩, ⟨gaO, ggO, eO, hO⟩, n_CB_what, n_CB_count, n_CL_line, n_CW_word, PySem.W.mg_of X G a_CB, PySem.W.mg_of X G a_CL, PySem.W.mg_of X G a_CW, PySem.W.mg_of X G a_CS,
        exm_yes eC_CB iC_CB tC_CB sC_CB, exm_yes eC_CB iC_CB tC_CB xs_CL_CB, exm_yes eC_CL iC_CL tC_CL sC_CL, exm_yes eC_CB iC_CB tC_CB xs_CW_CB, exm_yes eC_CL iC_CL tC_CL xs_CW_CL, exm_yes eC_CW iC_CW tC_CW sC_CW, exm_yes eC_CB iC_CB tC_CB xs_CO_CB, exm_yes eC_CL iC_CL tC_CL xs_CO_CL, exm_yes eC_CW iC_CW tC_CW xs_CO_CW, exm_yes e_CS i_CS t_CS xs_CO_CS,
        ⟨f_to, _, ⟨a_to, i_to, kpto⟩, ok_told (c := CO) l_to c_of_to, (Fto).binds (ps := ["self"]) fun _ _ _ _ _ _ us hl => match us, hl with | [_], _ => rfl⟩⟩
    have Cbe : Cal l.prog w K mg base CX0 "_law_bent" 3 ["_law_source_here", "_law_sizes_so", "_law_spec"] spBent :=
      ⟨_, _, ok_bent Fbe ⟨PySem.W.mg_none_of X G z_len⟩ Cdr Cpk, PySem.W.mg_of X G a_be, k_be, Fbe.binds (ps := ["_law_source_here", "_law_sizes_so", "_law_spec"]) fun _ _ _ _ _ _ us hl => match us, hl with | [_, _, _], _ => rfl⟩
    have hu_pr : ∀ p ∈ tabs4 P_pr P_ri, p.1 = P_pr → p.2 = (("_law_parts_right" : Str) ++ ".<locals>.") ++ "<lambda>" := fun p hp z => by
      simp only [tabs4, List.mem_cons, List.not_mem_nil, or_false] at hp
      rcases hp with rfl | rfl
      · rfl
      · exact absurd z.symm nq_pr_ri
    have hu_ri : ∀ p ∈ tabs4 P_pr P_ri, p.1 = P_ri → p.2 = (("_law_right" : Str) ++ ".<locals>.") ++ "<lambda>" := fun p hp z => by
      simp only [tabs4, List.mem_cons, List.not_mem_nil, or_false] at hp
      rcases hp with rfl | rfl
      · exact absurd z nq_pr_ri
      · rfl
    have TT : TParts mg := ⟨PySem.W.mg_none_of X G z_range, PySem.W.mg_none_of X G z_len, PySem.W.mg_none_of X G z_tuple⟩
    have TB_pr := TBs (c_pr, P_pr) (by simp)
    have TB_ri := TBs (c_ri, P_ri) (by simp)
    have CPR : Cal l.prog w K mg base CX0 "_law_parts_right" 12 ["_law_source_here", "_law_sizes_so"] (spParts (tabs4 P_pr P_ri)) :=
      ⟨_, _, ok_parts l_pr c_of_pr TB_pr (by simp [tabs4]) hu_pr TT TP TQ Cdr Cpk Csp Cbe Cco Clp Fou (PySem.W.mg_of X G a_ou) (Fou.binds (ps := ["_law_call"]) fun _ _ _ _ _ _ us hl => match us, hl with | [_], _ => rfl) TR, PySem.W.mg_of X G a_pr, k_pr, (fun_mk (st := sParts) l_pr c_of_pr k_pr).binds (ps := ["_law_source_here", "_law_sizes_so"]) fun _ _ _ _ _ _ us hl => match us, hl with | [_, _], _ => rfl⟩
    have CR : Cal l.prog w K mg base CX0 "_law_right" 13 ["_law_source_here"] (spRight (tabs4 P_pr P_ri)) :=
      ⟨_, _, ok_right l_ri c_of_ri TB_ri (by simp [tabs4]) hu_ri TT TP Cdr Cpk Csz CPR Mmi Mpi BF Dpa sf_CP Clp Fou (PySem.W.mg_of X G a_ou) (Fou.binds (ps := ["_law_call"]) fun _ _ _ _ _ _ us hl => match us, hl with | [_], _ => rfl) TR, PySem.W.mg_of X G a_ri, k_ri, (fun_mk (st := sRight) l_ri c_of_ri k_ri).binds (ps := ["_law_source_here"]) fun _ _ _ _ _ _ us hl => match us, hl with | [_], _ => rfl⟩
    exact ok_law Fla Cso CR
end Q
open PySem PySem.W PyProof.Rows
set_option maxRecDepth 100000 in
set_option maxHeartbeats 0 in
theorem PySem.Challenge.cw_lateststore_k04_programs_refused_holds : PySem.Challenge.rw_lateststore_k04_programs_refused.Holds := by
  w_on; o_law; k_head; (case hw => w_witness2)
  k_fill
  refine LamX.walk_ofTs (l := PySem.Challenge.rw_lateststore_k04_programs_refused) (n := 63) (k := 14) (x := "_law_script") (CX := fun _ => L2.CX0) rfl (by decide) rfl ⟨rfl, by decide, by decide⟩ (fun w h Y => PySem.W.km_in_of Y) ?F (fun _ _ _ _ _ z => z)
  case F =>
    intro w mg fa h Y KX G hmg
    refine' Q.all_mk (ts := _) KX G hmg (PySem.W.km_tabs_of Y) ?a_CS ?a_CB ?x_CB ?bm_CB' ?sa_CB ?ga_CB ?gg_CB ?kC_CB ?eC_CB ?tC_CB ?hC_CB ?iC_CB ?sC_CB ?n_CB_what ?n_CB_count ?a_badI ?t_badI ?l_badI ?c_of_badI ?k_badI ?a_CL ?x_CL ?bm_CL' ?sa_CL ?ga_CL ?gg_CL ?kC_CL ?eC_CL ?tC_CL ?hC_CL ?iC_CL ?sC_CL ?n_CL_line ?a_nlI ?t_nlI ?l_nlI ?c_of_nlI ?k_nlI ?a_CW ?x_CW ?bm_CW' ?sa_CW ?ga_CW ?gg_CW ?kC_CW ?eC_CW ?tC_CW ?hC_CW ?iC_CW ?sC_CW ?n_CW_word ?a_nwI ?t_nwI ?l_nwI ?c_of_nwI ?k_nwI ?z_abs ?z_len ?z_range ?z_tuple ?z_list ?z_max ?z_isinstance ?g_MOST_LINES ?g_MOST_WORDS ?g_MOST_COMMANDS ?a_CM ?pg_CM ?hd_CM ?po_CM ?sa_CM ?mk_CM ?kc_CM ?n_CM_sizes ?a_CT ?pg_CT ?hd_CT ?po_CT ?sa_CT ?mk_CT ?kc_CT ?n_CT_line ?n_CT_word ?n_CT_number ?a_CF ?pg_CF ?hd_CF ?po_CF ?sa_CF ?mk_CF ?kc_CF ?n_CF_line ?a_CP ?pg_CP ?hd_CP ?po_CP ?sa_CP ?mk_CP ?kc_CP ?n_CP_memory ?n_CP_commands ?a_CE ?pg_CE ?hd_CE ?po_CE ?sa_CE ?mk_CE ?kc_CE ?ie_CE ?bi_n ?bi_t ?oh_CM ?om_CM ?oh_CT ?om_CT ?oh_CF ?om_CF ?oh_CE ?om_CE ?kc1_CT ?kc2_CT ?kc1_CF ?kc2_CF ?sb_CF_CT ?nq_CF_CT ?sb_CE_CT ?nq_CE_CT ?sb_CT_CF ?nq_CT_CF ?sb_CE_CF ?nq_CE_CF ?ne_PE ?a_ck ?l_ck ?c_of_ck ?k_ck ?a_mi ?i_mi ?l_mi ?c_of_mi ?k_mi ?a_si ?i_si ?l_si ?c_of_si ?k_si ?a_fi ?i_fi ?l_fi ?c_of_fi ?k_fi ?a_cl ?l_cl ?c_of_cl ?k_cl ?a_cw ?l_cw ?c_of_cw ?k_cw ?a_cc ?l_cc ?c_of_cc ?k_cc ?a_cs ?l_cs ?c_of_cs ?k_cs ?a_pi ?i_pi ?l_pi ?c_of_pi ?k_pi ?a_CO ?qO ?kO ?eO ?tO ?hO ?gaO ?ggO ?a_to ?i_to ?l_to ?c_of_to ?k_to ?kpto ?a_me ?i_me ?l_me ?c_of_me ?k_me ?hne_CM ?a_pa ?i_pa ?l_pa ?c_of_pa ?k_pa ?sf_CP ?kc1_CE ?kc2_CE ?sb_CT_CE ?nq_CT_CE ?sb_CF_CE ?nq_CF_CE ?a_se ?i_se ?l_se ?c_of_se ?k_se ?a_fq ?i_fq ?l_fq ?c_of_fq ?k_fq ?a_ee ?i_ee ?l_ee ?c_of_ee ?k_ee ?a_so ?l_so ?c_of_so ?k_so ?a_dr ?l_dr ?c_of_dr ?k_dr ?a_pk ?l_pk ?c_of_pk ?k_pk ?a_sz ?l_sz ?c_of_sz ?k_sz ?a_nu ?l_nu ?c_of_nu ?k_nu ?a_sp ?l_sp ?c_of_sp ?k_sp ?a_co ?l_co ?c_of_co ?k_co ?a_lp ?l_lp ?c_of_lp ?k_lp ?a_ou ?l_ou ?c_of_ou ?k_ou ?e_CS ?i_CS ?t_CS ?xs_CL_CB ?xs_CW_CB ?xs_CW_CL ?xs_CO_CB ?xs_CO_CL ?xs_CO_CW ?xs_CO_CS ?a_be ?l_be ?c_of_be ?k_be ?a_pr ?l_pr ?c_of_pr ?k_pr ?lc_pr ?v11_pr ?v18_pr ?v7_pr ?v9_pr ?v10_pr ?ne_pr ?nP_pr ?tP_pr ?a_ri ?l_ri ?c_of_ri ?k_ri ?lc_ri ?v11_ri ?v18_ri ?v7_ri ?v9_ri ?v10_ri ?ne_ri ?nP_ri ?tP_ri ?nq_pr_ri ?a_la ?l_la ?c_of_la ?k_la
    (case a_CS => k_is)
    (case a_CB => k_is)
    (case x_CB => k_is)
    (case bm_CB' => decide +kernel)
    (case sa_CB => k_is)
    (case ga_CB => k_is)
    (case gg_CB => k_is)
    (case kC_CB => k_is)
    (case eC_CB => k_is)
    (case tC_CB => k_is)
    (case hC_CB => k_is)
    (case iC_CB => k_is)
    (case sC_CB => first | rfl | k_is)
    (case n_CB_what => k_is)
    (case n_CB_count => k_is)
    (case a_badI => k_is)
    (case t_badI => k_is)
    (case l_badI => k_is)
    (case c_of_badI => k_is)
    (case k_badI => k_is)
    (case a_CL => k_is)
    (case x_CL => k_is)
    (case bm_CL' => decide +kernel)
    (case sa_CL => k_is)
    (case ga_CL => k_is)
    (case gg_CL => k_is)
    (case kC_CL => k_is)
    (case eC_CL => k_is)
    (case tC_CL => k_is)
    (case hC_CL => k_is)
    (case iC_CL => k_is)
    (case sC_CL => first | rfl | k_is)
    (case n_CL_line => k_is)
    (case a_nlI => k_is)
    (case t_nlI => k_is)
    (case l_nlI => k_is)
    (case c_of_nlI => k_is)
    (case k_nlI => k_is)
    (case a_CW => k_is)
    (case x_CW => k_is)
    (case bm_CW' => decide +kernel)
    (case sa_CW => k_is)
    (case ga_CW => k_is)
    (case gg_CW => k_is)
    (case kC_CW => k_is)
    (case eC_CW => k_is)
    (case tC_CW => k_is)
    (case hC_CW => k_is)
    (case iC_CW => k_is)
    (case sC_CW => first | rfl | k_is)
    (case n_CW_word => k_is)
    (case a_nwI => k_is)
    (case t_nwI => k_is)
    (case l_nwI => k_is)
    (case c_of_nwI => k_is)
    (case k_nwI => k_is)
    (case z_abs => k_is)
    (case z_len => k_is)
    (case z_range => k_is)
    (case z_tuple => k_is)
    (case z_list => k_is)
    (case z_max => k_is)
    (case z_isinstance => k_is)
    (case g_MOST_LINES => k_is)
    (case g_MOST_WORDS => k_is)
    (case g_MOST_COMMANDS => k_is)
    (case a_CM => k_is)
    (case pg_CM => k_is)
    (case hd_CM => k_is)
    (case po_CM => k_is)
    (case sa_CM => k_is)
    (case mk_CM => k_is)
    (case kc_CM => k_is)
    (case n_CM_sizes => k_is)
    (case a_CT => k_is)
    (case pg_CT => k_is)
    (case hd_CT => k_is)
    (case po_CT => k_is)
    (case sa_CT => k_is)
    (case mk_CT => k_is)
    (case kc_CT => k_is)
    (case n_CT_line => k_is)
    (case n_CT_word => k_is)
    (case n_CT_number => k_is)
    (case a_CF => k_is)
    (case pg_CF => k_is)
    (case hd_CF => k_is)
    (case po_CF => k_is)
    (case sa_CF => k_is)
    (case mk_CF => k_is)
    (case kc_CF => k_is)
    (case n_CF_line => k_is)
    (case a_CP => k_is)
    (case pg_CP => k_is)
    (case hd_CP => k_is)
    (case po_CP => k_is)
    (case sa_CP => k_is)
    (case mk_CP => k_is)
    (case kc_CP => k_is)
    (case n_CP_memory => k_is)
    (case n_CP_commands => k_is)
    (case a_CE => k_is)
    (case pg_CE => k_is)
    (case hd_CE => k_is)
    (case po_CE => k_is)
    (case sa_CE => k_is)
    (case mk_CE => k_is)
    (case kc_CE => k_is)
    (case ie_CE => k_is)
    (case bi_n => k_is)
    (case bi_t => k_is)
    (case oh_CM => k_is)
    (case om_CM => k_is)
    (case oh_CT => k_is)
    (case om_CT => k_is)
    (case oh_CF => k_is)
    (case om_CF => k_is)
    (case oh_CE => k_is)
    (case om_CE => k_is)
    (case kc1_CT => k_is)
    (case kc2_CT => k_is)
    (case kc1_CF => k_is)
    (case kc2_CF => k_is)
    (case sb_CF_CT => first | rfl | k_is)
    (case nq_CF_CT => decide)
    (case sb_CE_CT => first | rfl | k_is)
    (case nq_CE_CT => decide)
    (case sb_CT_CF => first | rfl | k_is)
    (case nq_CT_CF => decide)
    (case sb_CE_CF => first | rfl | k_is)
    (case nq_CE_CF => decide)
    (case ne_PE => decide)
    (case a_ck => k_is)
    (case l_ck => k_is)
    (case c_of_ck => k_is)
    (case k_ck => k_is)
    (case a_mi => k_is)
    (case i_mi => k_is)
    (case l_mi => k_is)
    (case c_of_mi => k_is)
    (case k_mi => k_is)
    (case a_si => k_is)
    (case i_si => k_is)
    (case l_si => k_is)
    (case c_of_si => k_is)
    (case k_si => k_is)
    (case a_fi => k_is)
    (case i_fi => k_is)
    (case l_fi => k_is)
    (case c_of_fi => k_is)
    (case k_fi => k_is)
    (case a_cl => k_is)
    (case l_cl => k_is)
    (case c_of_cl => k_is)
    (case k_cl => k_is)
    (case a_cw => k_is)
    (case l_cw => k_is)
    (case c_of_cw => k_is)
    (case k_cw => k_is)
    (case a_cc => k_is)
    (case l_cc => k_is)
    (case c_of_cc => k_is)
    (case k_cc => k_is)
    (case a_cs => k_is)
    (case l_cs => k_is)
    (case c_of_cs => k_is)
    (case k_cs => k_is)
    (case a_pi => k_is)
    (case i_pi => k_is)
    (case l_pi => k_is)
    (case c_of_pi => k_is)
    (case k_pi => k_is)
    (case a_CO => k_is)
    (case qO => k_exc)
    (case kO => k_is)
    (case eO => k_is)
    (case tO => k_is)
    (case hO => k_is)
    (case gaO => k_is)
    (case ggO => k_is)
    (case a_to => k_is)
    (case i_to => k_is)
    (case l_to => k_is)
    (case c_of_to => k_is)
    (case k_to => k_is)
    (case kpto => k_is)
    (case a_me => k_is)
    (case i_me => k_is)
    (case l_me => k_is)
    (case c_of_me => k_is)
    (case k_me => k_is)
    (case hne_CM => k_is)
    (case a_pa => k_is)
    (case i_pa => k_is)
    (case l_pa => k_is)
    (case c_of_pa => k_is)
    (case k_pa => k_is)
    (case sf_CP => k_is)
    (case kc1_CE => k_is)
    (case kc2_CE => k_is)
    (case sb_CT_CE => first | rfl | k_is)
    (case nq_CT_CE => decide)
    (case sb_CF_CE => first | rfl | k_is)
    (case nq_CF_CE => decide)
    (case a_se => k_is)
    (case i_se => k_is)
    (case l_se => k_is)
    (case c_of_se => k_is)
    (case k_se => k_is)
    (case a_fq => k_is)
    (case i_fq => k_is)
    (case l_fq => k_is)
    (case c_of_fq => k_is)
    (case k_fq => k_is)
    (case a_ee => k_is)
    (case i_ee => k_is)
    (case l_ee => k_is)
    (case c_of_ee => k_is)
    (case k_ee => k_is)
    (case a_so => k_is)
    (case l_so => k_is)
    (case c_of_so => k_is)
    (case k_so => k_is)
    (case a_dr => k_is)
    (case l_dr => k_is)
    (case c_of_dr => k_is)
    (case k_dr => k_is)
    (case a_pk => k_is)
    (case l_pk => k_is)
    (case c_of_pk => k_is)
    (case k_pk => k_is)
    (case a_sz => k_is)
    (case l_sz => k_is)
    (case c_of_sz => k_is)
    (case k_sz => k_is)
    (case a_nu => k_is)
    (case l_nu => k_is)
    (case c_of_nu => k_is)
    (case k_nu => k_is)
    (case a_sp => k_is)
    (case l_sp => k_is)
    (case c_of_sp => k_is)
    (case k_sp => k_is)
    (case a_co => k_is)
    (case l_co => k_is)
    (case c_of_co => k_is)
    (case k_co => k_is)
    (case a_lp => k_is)
    (case l_lp => k_is)
    (case c_of_lp => k_is)
    (case k_lp => k_is)
    (case a_ou => k_is)
    (case l_ou => k_is)
    (case c_of_ou => k_is)
    (case k_ou => k_is)
    (case e_CS => k_is)
    (case i_CS => k_is)
    (case t_CS => k_is)
    (case xs_CL_CB => first | rfl | k_is)
    (case xs_CW_CB => first | rfl | k_is)
    (case xs_CW_CL => first | rfl | k_is)
    (case xs_CO_CB => first | rfl | k_is)
    (case xs_CO_CL => first | rfl | k_is)
    (case xs_CO_CW => first | rfl | k_is)
    (case xs_CO_CS => first | rfl | k_is)
    (case a_be => k_is)
    (case l_be => k_is)
    (case c_of_be => k_is)
    (case k_be => k_is)
    (case a_pr => k_is)
    (case l_pr => k_is)
    (case c_of_pr => k_is)
    (case k_pr => k_is)
    (case lc_pr => k_is)
    (case v11_pr => rfl)
    (case v18_pr => rfl)
    (case v7_pr => rfl)
    (case v9_pr => rfl)
    (case v10_pr => rfl)
    (case ne_pr => decide)
    (case nP_pr => rfl)
    (case tP_pr => decide)
    (case a_ri => k_is)
    (case l_ri => k_is)
    (case c_of_ri => k_is)
    (case k_ri => k_is)
    (case lc_ri => k_is)
    (case v11_ri => rfl)
    (case v18_ri => rfl)
    (case v7_ri => rfl)
    (case v9_ri => rfl)
    (case v10_ri => rfl)
    (case ne_ri => decide)
    (case nP_ri => rfl)
    (case tP_ri => decide)
    (case nq_pr_ri => decide)
    (case a_la => k_is)
    (case l_la => k_is)
    (case c_of_la => k_is)
    (case k_la => k_is)
