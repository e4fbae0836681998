import PyProof.Rows.All
import Wide.All
import OpenK.AllK
import Wide.FinOn
import HandS.ForMost
import HandS.ForExc
import HandS.TryMany
import HandS.ExcInit
import HandS.ExcField
import HandS.Lambda
import HandS.EndTab
import HandS.EndOwn
import HandS.Conv
import HandS.Steps
import HandS.Evl
import HandS.IsInst
import HandS.New0
import HandS.OwnEq
import HandS.TupAny
import PySem.Challenge.RW_lateststore_k05_made_and_sure_stores
set_option Elab.async false
set_option linter.all false
set_option maxRecDepth 100000
set_option maxHeartbeats 4000000
namespace Q
open PySem PySem.Spec PyProof.Rows L2
section
variable {X : Cx}
/-- script + [0]: two lists that are read, whatever their slots -/
def rCatR (K : PySem.W.Frag) : R2 := fun x y H Q => ∃ l b xs zs, x = .ref l ∧ y = .ref b ∧ SqL K H l xs ∧ SqL K H b zs ∧ xs.length + zs.length ≤ sizeLine ∧ ∀ p, H p = none → Q (.ref p) (upd H p (.lst (xs ++ zs)))
theorem op_catR : OpR X (binaryOp .Add) (rCatR X.K) := by
  intro pz s σ H x y v u Q I rx ry h
  obtain ⟨l, b, xs, zs, rfl, rfl, h1, h2, hz, q⟩ := h
  cases rx
  cases ry
  obtain ⟨i1, r1, p1, z1⟩ := I.list h1
  obtain ⟨i2, r2, p2, z2⟩ := I.list h2
  have l1 := r1.length
  have l2 := r2.length
  obtain ⟨⟨c1, d1, da1, s1⟩, g1, e1, n1, f1⟩ := p1.isList
  obtain ⟨⟨c2, d2, da2, s2⟩, g2, e2, n2, f2⟩ := p2.isList
  simp only at e1 f1 e2 f2
  subst e1 f1 e2 f2
  refine concat_meets ⟨_, g1, rfl⟩ ⟨_, g2, rfl⟩ PySem.noFill_list_add PySem.seq_list_add PySem.F.slot_list_add PySem.F.entry_list_add (PySem.F.args_list_add_2 _ _)
    (list_addW l b i1.toArray i2.toArray n1 n2 d1 d2 s1 s2 (by simp only [List.size_toArray]; omega)) ⟨g1, g2, ?_⟩
  have ea : i1.toArray ++ i2.toArray = (i1 ++ i2).toArray := by simp
  rw [ea]
  exact ⟨.ref _, _, I.lnew (t' := s.toks) (r1.append r2) (by rw [List.length_append]; omega), rfl, q _ I.fresh⟩
end
end Q

namespace Q
open PySem PySem.Spec PyProof.Rows L2
/-- an except clause: the class, the slot of its name where it has one, its suite -/
structure Cl where
  c : Value
  i : Option Nat
  ts : Addr → Value → Option Addr → TS
/-- behind a named suite the name is gone -/
def unset (D : Ends) (i : Nat) : Ends := { nx := fun τ G => D.nx (τ.set i none) G, rt := D.rt, bk := fun τ G => D.bk (τ.set i none) G, ct := fun τ G => D.ct (τ.set i none) G }
def tSuite (p : Cl) (D : Ends) (a : Addr) (cls : Value) (d : Option Addr) (σ : L2.St) (H : Hp) : Prop :=
  match p.i with
  | none => p.ts a cls d D σ H
  | some i => p.ts a cls d (unset D i) (σ.set i (some (.ref a))) H
def wCl (K : PySem.W.Frag) (Wout : WX) (D : Ends) : List Cl → WX
  | [] => Wout
  | p :: r => fun cls d σ H => ∃ b, PySem.W.exmOne K cls p.c = some b ∧ (b = true → ∀ a, H a = none → tSuite p D a cls d σ H) ∧ (b = false → wCl K Wout D r cls d σ H)
inductive ClOk (X : Cx) : List ExceptHandler → List Cl → Prop
  | nil : ClOk X [] []
  | bare {x : Str} {c : Value} {ts : Addr → Value → Option Addr → TS} {b₀ : Stmt} {ss : List Stmt} {np p2 : Pos} {hs : List ExceptHandler} {l : List Cl} (hc : Names X x c)
      (hsu : ∀ (a : Addr) (oe : Obj) (cls : Value) (d : Option Addr) (pn : List (Addr × Obj)), Zc cls d oe → (∃ vs, oe.data = .fields vs) → PSs (X.suite a ((a, oe) :: pn)) (b₀ :: ss) (ts a cls d)) (r : ClOk X hs l) :
      ClOk X (.ExceptHandler (some (.Name x np)) none (b₀ :: ss) p2 :: hs) (⟨c, none, ts⟩ :: l)
  | named {x n : Str} {i : Nat} {c : Value} {ts : Addr → Value → Option Addr → TS} {b₀ : Stmt} {ss : List Stmt} {np p2 : Pos} {hs : List ExceptHandler} {l : List Cl} (hi : X.N[i]? = some n) (hln : X.env.kindOf n = some .local) (hc : Names X x c)
      (hsu : ∀ (a : Addr) (oe : Obj) (cls : Value) (d : Option Addr) (pn : List (Addr × Obj)), Zc cls d oe → (∃ vs, oe.data = .fields vs) → PSs (X.suite a ((a, oe) :: pn)) (b₀ :: ss) (ts a cls d)) (r : ClOk X hs l) :
      ClOk X (.ExceptHandler (some (.Name x np)) (some n) (b₀ :: ss) p2 :: hs) (⟨c, some i, ts⟩ :: l)
section
variable {X : Cx} {body : List Stmt} {c₀ : ExceptHandler} {cs : List ExceptHandler} {l : List Cl} {pos : Pos} {tb : WX → TS} {Wout : WX}
theorem ps_try_cl (hst : X.stack = X.env :: X.outer) (hfm : X.env.frame = some X.env.locals) (hN : X.N.Nodup) (tk : Takes X Wout)
    (hb : ∀ (W : WX) (pn : List (Addr × Obj)) (xe : Value → Shared → Prop), Takes (X.tr pn xe) W → PassesOwn (model X.prog X.w) X.A X.env xe → PSs (X.tr pn xe) body (tb W))
    (hh : ClOk X (c₀ :: cs) l) : PS X (.Try body (c₀ :: cs) [] [] pos) (fun D σ H => tb (wCl X.K Wout D l) D σ H) := by
  refine ⟨fun pz s σ H D I h => ?_⟩
  have okX := I.ok
  have hfrm : X.A.frames = some (X.env :: X.outer) := by rw [okX.frames, hst]
  refine wpAny_Try_except ?_
  have run := (hb (wCl X.K Wout D l) (X.pn ++ pz)
    (fun e t1 => wpAny (model X.prog X.w) X.A (noteFrame e X.env) (fun _ t2 => wpAny (model X.prog X.w) X.A (setFlight e none)
      (fun _ t3 => wpAny (model X.prog X.w) X.A (handleBy e X.env (c₀ :: cs)) (SP X pz D) X.xe t3) X.xe t2) X.xe t1)
    (fun u sx xx => ?_) PassesOwn.looking).run [] s σ H D (I.toTry _) h
  · refine wpAny_mono run (fun f s1 hq => ?_) (fun e s1 he => he)
    cases f with
    | next =>
      obtain ⟨τ, G, J, q⟩ := hq
      exact wpAny_execs_nil ⟨τ, G, J.ofTry okX, q⟩
    | brk =>
      obtain ⟨τ, G, J, q⟩ := hq
      exact ⟨τ, G, J.ofTry okX, q⟩
    | cont =>
      obtain ⟨τ, G, J, q⟩ := hq
      exact ⟨τ, G, J.ofTry okX, q⟩
    | ret u =>
      obtain ⟨v, τ, G, J, r, q⟩ := hq
      exact ⟨v, τ, G, J.ofTry okX, r, q⟩
  · obtain ⟨a, B, sI, pq, τ, G, cls, d, rfl, Jt, nb, up, sky, na, os, ag, wish⟩ := xx
    have J : Inv X pz τ G sI := Jt.ofTry okX
    have sky1 : Sky B (X.env :: X.outer) a (Zc cls d) X.env.locals sx.heap := by rw [← hst]; exact sky
    show wpAny (model X.prog X.w) X.A (noteFrame (.ref a) X.env) _ _ _
    refine Sky.land Zc.steady hfrm hfm sky1 fun hA flA upA => ?_
    have JA : Inv X pz τ G { sx with heap := hA } := J.landed nb flA.1 (up.trans upA) os ag
    obtain ⟨oA, vA, heA, hzA, hdA⟩ := flA.there
    have apart : ∀ {hp : Heap} {o : Obj} {vs : Array Value}, hp.FunFrames B (X.env :: X.outer) → hp.get? a = some o → o.data = .fields vs → a ∉ frs (X.env :: X.outer) := fun {hp o vs} ff e dd hm => by
      obtain ⟨_, ob, eb, hnf⟩ := ff.mem hm
      rw [e] at eb
      cases eb
      exact hnf _ dd
    have nfr := apart flA.2.2.1 heA hdA
    have nL : a ≠ X.env.locals := fun z => nfr (List.mem_filterMap.mpr ⟨X.env, List.mem_cons_self, by rw [hfm, z]⟩)
    have nF : a ∉ X.fs := fun hm => by
      obtain ⟨e, he, q⟩ := List.mem_filterMap.mp hm
      exact nfr (List.mem_filterMap.mpr ⟨e, List.mem_cons_of_mem _ he, q⟩)
    have SA := JA.suite heA hdA na nL nF
    have LT : PySem.W.Looks (model X.prog X.w) hA (typeOf (.ref a)) cls := fun A Q E st k q => wpAny_typeOf_ref (k _ _ heA) (by rw [hzA.1]; exact q)
    have test : ∀ {x : Str} {c : Value} {np : Pos} {Q : Value → Shared → Prop} {E : Value → Shared → Prop}, Names X x c → Q c { sx with heap := hA } →
        wpAny (model X.prog X.w) (X.A.mark (some (.ref a))) (eval (.Name x np) X.env) Q E { sx with heap := hA } := fun {x c np Q E} hc q => by
      obtain ⟨hg, hdbg, hm | ⟨hm, hv, hnn⟩⟩ := hc
      · exact ld_glob (X := X.suite a ((a, oA) :: (X.pn ++ pz))) SA hg hm q hdbg
      · exact ld_blt (X := X.suite a ((a, oA) :: (X.pn ++ pz))) SA hg hm hv q hnn hdbg
    have go : ∀ {hs2 : List ExceptHandler} {l2 : List Cl}, ClOk X hs2 l2 → wCl X.K Wout D l2 cls d τ G → wpAny (model X.prog X.w) X.A (handleBy (.ref a) X.env hs2) (SP X pz D) X.xe { sx with heap := hA } := by
      intro hs2 l2 hk
      induction hk with
      | nil =>
        intro wish2
        refine wpAny_handleBy_nil ?_
        obtain ⟨k1, k2, k3, oe, vs, T, oT, ts2, he, hz, hd, h1, hr⟩ := id flA
        unfold PySem.passOn
        refine wpAny_bind (wpAny_field he hd h1 ?_)
        rw [if_neg (show ¬ ((Value.ref T == Value.none) = true) from by simp)]
        have fin : wpAny (model X.prog X.w) X.A (setFlight (.ref a) X.env.frame) (fun _ s4 => wpAny (model X.prog X.w) X.A (throw (.ref a) : Sem Flow) (SP X pz D) X.xe s4) X.xe { sx with heap := hA } := by
          rw [hfm]
          refine HandSPX.setFlight_upZ flA fun hB hhB upB => wpAny_throw (tk _ _ ?_)
          exact ⟨a, B, sI, pz, τ, G, cls, d, rfl, J, nb, (up.trans upA).trans upB, .inr (.inr (by rw [hst]; exact hhB)), na, os, ag, wish2⟩
        first
          | exact wpAny_bind (wpAny_pure (wpAny_bind fin))
          | exact wpAny_bind fin
      | @bare x c ts b₀ ss np p2 hs3 l3 hc hsu r ih =>
        intro wish2
        obtain ⟨b, hb1, hyes, hno⟩ := wish2
        refine wpAny_handleBy_cons (codeAny_handlers_test ?_) (by intro q; cases q)
        have LM := PySem.W.exm_one (M := model X.prog X.w) (JA.kIn) LT hb1
        refine test hc (LM.here ?_)
        cases b with
        | true =>
          refine codeAny_handlers_suite ?_
          refine HandSPX.lands_againZ flA fun hB flB upB => ?_
          have JB : Inv X pz τ G { sx with heap := hB } := J.landed nb flB.1 ((up.trans upA).trans upB) os ag
          obtain ⟨oB, vB, heB, hzB, hdB⟩ := flB.there
          have SB := JB.suite heB hdB na nL nF
          refine wpAny_mono ((hsu a oB cls d (X.pn ++ pz) hzB ⟨_, hdB⟩).run [] _ _ G _ SB (hyes rfl a na)) (fun f s6 hq => ?_) (fun _ _ z => False.elim z)
          cases f with
          | next =>
            obtain ⟨τ6, G6, S6, q6⟩ := hq
            exact ⟨_, _, S6.unsuite okX, q6⟩
          | brk =>
            obtain ⟨τ6, G6, S6, q6⟩ := hq
            exact ⟨_, _, S6.unsuite okX, q6⟩
          | cont =>
            obtain ⟨τ6, G6, S6, q6⟩ := hq
            exact ⟨_, _, S6.unsuite okX, q6⟩
          | ret u =>
            obtain ⟨v6, τ6, G6, S6, r6, q6⟩ := hq
            exact ⟨_, _, _, S6.unsuite okX, r6, q6⟩
        | false =>
          show wpAny _ X.A (handleBy (.ref a) X.env hs3) _ _ _
          exact ih (hno rfl)
      | @named x n i c ts b₀ ss np p2 hs3 l3 hi hln hc hsu r ih =>
        intro wish2
        obtain ⟨b, hb1, hyes, hno⟩ := wish2
        have hloc : Loc X.env.scope n := .inl hln
        refine wpAny_handleBy_cons (codeAny_handlers_test ?_) (by intro q; cases q)
        have LM := PySem.W.exm_one (M := model X.prog X.w) (JA.kIn) LT hb1
        refine test hc (LM.here ?_)
        cases b with
        | true =>
          refine codeAny_handlers_suite_as ?_
          refine HandSPX.lands_againZ flA fun hB flB upB => ?_
          have JB : Inv X pz τ G { sx with heap := hB } := J.landed nb flB.1 ((up.trans upA).trans upB) os ag
          obtain ⟨oB, vB, heB, hzB, hdB⟩ := flB.there
          have SB := JB.suite heB hdB na nL nF
          refine store_ok (X := X.suite a ((a, oB) :: (X.pn ++ pz))) (v := .ref a) SB hN hi hloc rfl (fun s5 S5 => ?_) (.inr hln)
          refine wpAny_mono ((hsu a oB cls d (X.pn ++ pz) hzB ⟨_, hdB⟩).run [] s5 _ G _ S5 (hyes rfl a na)) (fun f s6 hq => ?_) (fun _ _ z => False.elim z)
          have gone : ∀ {τ6 : L2.St} {G6 : Hp} {R : Shared → Prop}, Inv (X.suite a ((a, oB) :: (X.pn ++ pz))) [] τ6 G6 s6 → (∀ s7, Inv X pz (τ6.set i none) G6 s7 → R s7) →
              wpAny (model X.prog X.w) X.A (do bindName X.env n .none; unbindBehindTheSuite X.env n p2) (fun _ s7 => R s7) X.xe s6 := fun {τ6 G6 R} S6 hR => gone_ok (S6.unsuite okX) hN hi hln hR
          cases f with
          | next =>
            obtain ⟨τ6, G6, S6, q6⟩ := hq
            exact gone S6 fun s7 J7 => ⟨_, _, J7, q6⟩
          | brk =>
            obtain ⟨τ6, G6, S6, q6⟩ := hq
            exact gone S6 fun s7 J7 => ⟨_, _, J7, q6⟩
          | cont =>
            obtain ⟨τ6, G6, S6, q6⟩ := hq
            exact gone S6 fun s7 J7 => ⟨_, _, J7, q6⟩
          | ret u =>
            obtain ⟨v6, τ6, G6, S6, r6, q6⟩ := hq
            exact gone S6 fun s7 J7 => ⟨_, _, _, J7, r6, q6⟩
        | false =>
          show wpAny _ X.A (handleBy (.ref a) X.env hs3) _ _ _
          exact ih (hno rfl)
    exact go hh wish
end
end Q

namespace Q
open PySem PySem.Spec PyProof.Rows L2
/-- a def of the module, as its callers need it -/
structure Cal (P : Program) (w : World) (K : PySem.W.Frag) (mg : Str → Option Value) (base : Heap) (CX : CXT) (x : Str) (k : Nat) (ps : List Str) (sp : Sp) : Prop where
  ex : ∃ (f : Addr) (fd : FuncData), FnOk P w K mg base CX k f fd ps sp ∧ mg x = some (.ref f) ∧ PySem.W.keepIn K (.ref f) = true ∧ Binds K fd ps []
/-- a class of the module with its __init__ -/
structure Mak (P : Program) (w : World) (K : PySem.W.Frag) (mg : Str → Option Value) (base : Heap) (CX : CXT) (x : Str) (C : Addr) (k : Nat) (ps : List Str) (sp : Sp) : Prop where
  ex : ∃ (f : Addr) (fd : FuncData), Mk K C f ∧ FnOk P w K mg base CX k f fd ps sp ∧ mg x = some (.ref C) ∧ Binds K fd ps []
/-- an error class of the module with its __init__ -/
structure Err (P : Program) (w : World) (K : PySem.W.Frag) (mg : Str → Option Value) (base : Heap) (x : Str) (C : Addr) (k : Nat) (ps : List Str) (sp : Sp) : Prop where
  cl : OexC K C
  ex : ∃ (f : Addr) (fd : FuncData), PySem.W.findIn K (.ref C) "__init__" = some (some (.ref f)) ∧ PySem.W.typeIn K (.ref f) = some (.type "function") ∧ FnOk P w K mg base CX0 k f fd ps sp ∧ mg x = some (.ref C) ∧ Binds K fd ps []
section
variable {X : Cx} {CX : CXT} {k : Nat} {C : Addr} {ps : List Str} {sp : Sp} {E : XK} {x : Str} {p pos : Pos} {e : Expr} {es : List Expr} {t : TA}
theorem pe_cal (F : Cal X.prog X.w X.K X.mg X.base CX x k ps sp) (hr : Room k X.A) (hg : Gl X x) (hx : Passes CX X E) (ha : PA X (e :: es) t) (hdb : (x == ("__debug__" : Str)) = false := by decide)
    (he : starEach (e :: es) X.env = (false, eval e X.env) :: starEach es X.env := by rfl) (hpl : (backTo pos (starEach es X.env)).any (·.1) = false := by rfl) : PE X (.Call (.Name x p) (e :: es) [] pos) (tCall sp [] E t) := by
  obtain ⟨f, fd, G, hm, hk, hb⟩ := F.ex
  exact pe_call G hr hg hm hk hb .nil hx ha hdb he hpl
theorem pe_cal0 (F : Cal X.prog X.w X.K X.mg X.base CX x k ps sp) (hr : Room k X.A) (hg : Gl X x) (hx : Passes CX X E) (hdb : (x == ("__debug__" : Str)) = false := by decide) : PE X (.Call (.Name x p) [] [] pos) (tCall sp [] E tNil) := by
  obtain ⟨f, fd, G, hm, hk, hb⟩ := F.ex
  exact pe_call0 G hr hg hm hk hb .nil hx hdb
theorem pe_mak (F : Mak X.prog X.w X.K X.mg X.base CX x C k ps sp) (hr : Room (k + 1) X.A) (hg : Gl X x) (hx : Passes CX X E) (ha : PA X (e :: es) t) (hdb : (x == ("__debug__" : Str)) = false := by decide)
    (he : starEach (e :: es) X.env = (false, eval e X.env) :: starEach es X.env := by rfl) (hpl : (backTo pos (starEach es X.env)).any (·.1) = false := by rfl) : PE X (.Call (.Name x p) (e :: es) [] pos) (tMake C sp [] E t) := by
  obtain ⟨f, fd, M, G, hm, hb⟩ := F.ex
  exact pe_make M G hr hg hm hb .nil hx ha hdb he hpl
theorem pmk_err (F : Err X.prog X.w X.K X.mg X.base x C k ps sp) (hr : Room (k + 1) X.A) (hg : Gl X x) (ha : PA X (e :: es) t) (hdb : (x == ("__debug__" : Str)) = false := by decide)
    (he : starEach (e :: es) X.env = (false, eval e X.env) :: starEach es X.env := by rfl) (hpl : (backTo pos (starEach es X.env)).any (·.1) = false := by rfl) : PMk X (.Call (.Name x p) (e :: es) [] pos) (tMkO C sp [] t) := by
  obtain ⟨f, fd, iC, tI, G, hm, hb⟩ := F.ex
  exact pmk_oex F.cl iC tI G hr hb .nil pass0 hg hm ha hdb he hpl
end
theorem at0 {x : V} {xs : List V} : atI (x :: xs) 0 = some x := atI_nat (xs := x :: xs) (j := 0) rfl
theorem at1 {x y : V} {xs : List V} : atI (x :: y :: xs) 1 = some y := atI_nat (xs := x :: y :: xs) (j := 1) rfl
theorem at2 {x y z : V} {xs : List V} : atI (x :: y :: z :: xs) 2 = some z := atI_nat (xs := x :: y :: z :: xs) (j := 2) rfl
/-- the three numbers of a source -/
def src (a b c : Int) : HO := .lst [.int a, .int b, .int c]
def spSource : Sp := fun vs H Q _ => ∃ n : Int, vs = [.int n] ∧ ∀ (p : Addr) (a b c : Int), H p = none → Q (.ref p) (upd H p (src a b c))
/-- all but what stands at S is as it was -/
def Ks (S : Addr) (H H' : Hp) : Prop := ∀ b o, H b = some o → b ≠ S → H' b = some o
def HasSrc (S : Addr) (H : Hp) : Prop := ∃ a b c : Int, H S = some (src a b c)
theorem Ks.refl (S : Addr) (H : Hp) : Ks S H H := fun _ _ h _ => h
theorem Ks.trans {S : Addr} {H H1 H2 : Hp} (a : Ks S H H1) (b : Ks S H1 H2) : Ks S H H2 := fun c o h n => b c o (a c o h n) n
theorem Ks.of {S : Addr} {H H' : Hp} (e : Same H H') : Ks S H H' := fun b o h _ => e b o h
theorem Ks.upd {S : Addr} {H : Hp} {o : HO} : Ks S H (L2.upd H S o) := fun b u h n => by
  rw [upd_ne n]
  exact h
/-- a thing that H does not know may change -/
theorem Ks.mut {S p : Addr} {H H' : Hp} {o : HO} (e : Ks S H H') (h : H p = none) : Ks S H (L2.upd H' p o) := fun b u hb n => by
  rw [upd_ne (ne_of_none hb h)]
  exact e b u hb n
theorem Same.new {H : Hp} {p : Addr} {o : HO} (h : H p = none) : Same H (L2.upd H p o) := fun b u hb => by
  rw [upd_ne (ne_of_none hb h)]
  exact hb
theorem Same.mut {H H' : Hp} {p : Addr} {o : HO} (e : Same H H') (h : H p = none) : Same H (L2.upd H' p o) := fun b u hb => by
  rw [upd_ne (ne_of_none hb h)]
  exact e b u hb
theorem Ks.free {S p : Addr} {H H' : Hp} (e : Ks S H H') (hs : HasSrc S H') (h : H' p = none) : H p = none := by
  obtain ⟨a, b, c, hS⟩ := hs
  cases q : H p with
  | none => rfl
  | some o =>
    by_cases z : p = S
    · rw [z, hS] at h
      cases h
    · rw [e p o q z] at h
      cases h
def spDraw : Sp := fun vs H Q _ => ∃ (S : Addr) (m : Int), vs = [.ref S, .int m] ∧ HasSrc S H ∧ 0 < m ∧ m < 1073741824 ∧
  ∀ (r : Int) (H' : Hp), 0 ≤ r → r < m → HasSrc S H' → Ks S H H' → Q (.int r) H'
def spPick (K : PySem.W.Frag) : Sp := fun vs H Q _ => ∃ (S p : Addr) (xs : List V), vs = [.ref S, .ref p] ∧ HasSrc S H ∧ H p = some (.lst xs) ∧ p ≠ S ∧ 0 < xs.length ∧ xs.length < 1000000 ∧
  ∀ (x : V) (H' : Hp), x ∈ xs → HasSrc S H' → Ks S H H' → Q x H'
end Q

namespace Q
open PySem PySem.Spec PyProof.Rows L2
/-- a list (true) or a tuple (false) that is read -/
def Sq (b : Bool) (K : PySem.W.Frag) (H : Hp) (a : Addr) (xs : List V) : Prop := match b with
  | true => SqL K H a xs
  | false => SqT K H a xs
theorem Sq.l {K : PySem.W.Frag} {H : Hp} {a : Addr} {xs : List V} (h : H a = some (.lst xs)) : Sq true K H a xs := SqL.of h
theorem Sq.t {K : PySem.W.Frag} {H : Hp} {a : Addr} {xs : List V} (h : H a = some (.tup xs)) : Sq false K H a xs := SqT.of h
theorem Sq.same {b : Bool} {K : PySem.W.Frag} {H H' : Hp} {a : Addr} {xs : List V} (e : Same H H') (h : Sq b K H a xs) : Sq b K H' a xs := by
  cases b with
  | true => exact e.seq h
  | false =>
    rcases h with (h | ⟨o, h⟩) | h
    · exact .inl (.inl (e _ _ h))
    · exact .inl (.inr ⟨o, e _ _ h⟩)
    · exact .inr h
theorem Sq.or {b : Bool} {K : PySem.W.Frag} {H : Hp} {a : Addr} {xs : List V} (h : Sq b K H a xs) : SqL K H a xs ∨ SqT K H a xs := by
  cases b with
  | true => exact .inl h
  | false => exact .inr h
def iSq (b : Bool) (K : PySem.W.Frag) (tl : TE) : TI := match b with
  | true => iList K tl
  | false => iTup K tl
def Itq (b : Bool) (K : PySem.W.Frag) (a : Addr) : It := match b with
  | true => Itl K a
  | false => Itt K a
theorem pi_sq (b : Bool) {X : Cx} {tg e : Expr} {tl : TE} (hl : PE X e tl) : PI X tg e (iSq b X.K tl) := by
  cases b with
  | true => exact pi_list hl
  | false => exact pi_tup hl
/-- the reading of a for over a list or a tuple -/
theorem sq_for {b : Bool} {K : PySem.W.Frag} {a : Addr} {xs : List V} {tl : TE} {g : TG} {tb : TS} {D : Ends} {σ : L2.St} {H : Hp} (Pv : Nat → L2.St → Hp → Prop) (ht : ∀ R : V → Hp → Prop, R (.ref a) H → tl σ H R) (hx : Sq b K H a xs) (h0 : Pv 0 σ H) (hl : ∀ i σ H, i ≤ xs.length → Pv i σ H → Sq b K H a xs)
    (hs : ∀ i x σ H, xs[i]? = some x → Pv i σ H → g x σ H fun σ2 H2 => tb { D with nx := Pv (i + 1), ct := Pv (i + 1), bk := D.nx } σ2 H2) (hd : ∀ σ H, Pv xs.length σ H → D.nx σ H) : tFor (iSq b K tl) g tb D σ H := by
  cases b with
  | true =>
    refine ht _ ?_
    exact ⟨a, rfl, ⟨xs, hx⟩, for_list (K := K) (a := a) (xs := xs) Pv h0 hl hs hd⟩
  | false =>
    refine ht _ ?_
    exact ⟨a, rfl, ⟨xs, hx⟩, for_tup (K := K) (a := a) (xs := xs) Pv h0 hl hs hd⟩
/-! ### error classes with one field, with two -/
def spInit1 (C : Addr) (f1 : Str) : Sp := fun vs H Q _ => ∃ (a : Addr) (v1 : V), vs = [.ref a, v1] ∧ H a = some (exo a C none) ∧ ∀ d, H d = none → d ≠ a → Q .non (upd (upd H d (exd d [(f1, v1)])) a (exo a C (some d)))
def spInit2 (C : Addr) (f1 f2 : Str) : Sp := fun vs H Q _ => ∃ (a : Addr) (v1 v2 : V), vs = [.ref a, v1, v2] ∧ H a = some (exo a C none) ∧
  ∀ d, H d = none → d ≠ a → Q .non (upd (upd (upd H d (exd d [(f1, v1)])) a (exo a C (some d))) d (exd d [(f2, v2), (f1, v1)]))
theorem let_go {H : Hp} {a d : Addr} {o1 o2 o3 : HO} (ha : H a = none) (hd : H d = none) (ne : d ≠ a) : upd (del (upd (upd H d o1) a o2) a) d o3 = upd H d o3 := by
  funext b
  by_cases h1 : b = d
  · rw [h1, upd_same, upd_same]
  · rw [upd_ne h1, upd_ne h1]
    by_cases h2 : b = a
    · rw [h2, del_same, ha]
    · rw [del_ne h2, upd_ne h2, upd_ne h1]
theorem upd_twice {H : Hp} {a d : Addr} {o1 o2 o3 : HO} (ne : d ≠ a) : upd (upd (upd H d o1) a o2) d o3 = upd (upd H d o3) a o2 := by
  funext b
  by_cases h1 : b = d
  · rw [h1, upd_same, upd_ne ne, upd_same]
  · rw [upd_ne h1]
    by_cases h2 : b = a
    · rw [h2, upd_same, upd_same]
    · rw [upd_ne h2, upd_ne h2, upd_ne h1, upd_ne h1]
theorem upd_out {H : Hp} {a : Addr} {o1 o2 : HO} {d : Addr} (ne : d ≠ a) : upd (upd H a o1) d o2 = upd (upd H d o2) a o1 := by
  funext b
  by_cases h1 : b = d
  · rw [h1, upd_same, upd_ne ne, upd_same]
  · rw [upd_ne h1]
    by_cases h2 : b = a
    · rw [h2, upd_same, upd_same]
    · rw [upd_ne h2, upd_ne h2, upd_ne h1]
/-- what raising an error of one field asks -/
theorem mk1 {C : Addr} {f1 : Str} {v1 : V} {H : Hp} {R : XK} (h : ∀ d, H d = none → R (.ref C) (some d) (upd H d (.xd [(f1, v1)]))) :
    ∀ a, H a = none → spInit1 C f1 (.ref a :: ([v1] ++ [])) (upd H a (exo a C none))
      (fun v H2 => v = .non ∧ ∃ (d : Addr) (fs : List (Str × V)), H2 a = some (exo a C (some d)) ∧ H2 d = some (exd d fs) ∧ H d = none ∧ R (.ref C) (some d) (upd (del H2 a) d (.xd fs))) (fun _ _ _ => False) := by
  intro a ha
  refine ⟨a, v1, rfl, upd_same, fun d hd ne => ⟨rfl, d, [(f1, v1)], upd_same, ?_, ?_, ?_⟩⟩
  · rw [upd_ne ne, upd_same]
  · rw [upd_ne ne] at hd
    exact hd
  · rw [upd_ne ne] at hd
    have e : upd (upd (upd H a (exo a C none)) d (exd d [(f1, v1)])) a (exo a C (some d)) = upd (upd H d (exd d [(f1, v1)])) a (exo a C (some d)) := by
      rw [upd_out ne, upd_upd]
    rw [e, let_go ha hd ne]
    exact h d hd
theorem mk2 {C : Addr} {f1 f2 : Str} {v1 v2 : V} {H : Hp} {R : XK} (h : ∀ d, H d = none → R (.ref C) (some d) (upd H d (.xd [(f2, v2), (f1, v1)]))) :
    ∀ a, H a = none → spInit2 C f1 f2 (.ref a :: ([v1, v2] ++ [])) (upd H a (exo a C none))
      (fun v H2 => v = .non ∧ ∃ (d : Addr) (fs : List (Str × V)), H2 a = some (exo a C (some d)) ∧ H2 d = some (exd d fs) ∧ H d = none ∧ R (.ref C) (some d) (upd (del H2 a) d (.xd fs))) (fun _ _ _ => False) := by
  intro a ha
  refine ⟨a, v1, v2, rfl, upd_same, fun d hd ne => ⟨rfl, d, [(f2, v2), (f1, v1)], ?_, upd_same, ?_, ?_⟩⟩
  · rw [upd_ne (Ne.symm ne), upd_same]
  · rw [upd_ne ne] at hd
    exact hd
  · rw [upd_ne ne] at hd
    have e : upd (upd (upd (upd H a (exo a C none)) d (exd d [(f1, v1)])) a (exo a C (some d))) d (exd d [(f2, v2), (f1, v1)]) = upd (upd H d (exd d [(f2, v2), (f1, v1)])) a (exo a C (some d)) := by
      rw [upd_twice ne, upd_out ne, upd_upd]
    rw [e, let_go ha hd ne]
    exact h d hd
/-! ### memories -/
/-- the first thing that is wrong with sizes: what and how many -/
def badSizes (ns : List Int) : Option (Str × Int) :=
  if 1 ≤ (ns.length : Int) ∧ (ns.length : Int) ≤ 6 then (ns.find? fun n => !decide (1 ≤ n ∧ n ≤ 4)).map fun n => (("words" : Str), n) else some ("lines", (ns.length : Int))
def spChkSizes (K : PySem.W.Frag) (CB : Addr) : Sp := fun vs H Q E => ∃ (b : Bool) (a : Addr) (ns : List Int), vs = [.ref a] ∧ Sq b K H a (ns.map V.int) ∧
  (∀ w n, badSizes ns = some (w, n) → ∀ d, H d = none → E (.ref CB) (some d) (upd H d (.xd [("count", .int n), ("what", .str w)]))) ∧ (badSizes ns = none → Q .non H)
/-- a memory at m (of the class at C): its sizes -/
def IsMem (C : Addr) (H : Hp) (m : Addr) (ns : List Int) : Prop := ∃ dx t, H m = some (.ins C dx [("sizes", .ref t)]) ∧ H t = some (.tup (ns.map V.int))
/-- Memory.__init__: the instance at m is new; a tuple of the sizes, new or the very one that is passed -/
def spMemInit (K : PySem.W.Frag) (CB CM : Addr) : Sp := fun vs H Q E => ∃ (b : Bool) (m dx a : Addr) (ns : List Int), vs = [.ref m, .ref a] ∧ H m = some (.ins CM dx []) ∧ Sq b K H a (ns.map V.int) ∧ a ≠ m ∧
  (∀ w n, badSizes ns = some (w, n) → ∀ d, H d = none → E (.ref CB) (some d) (upd H d (.xd [("count", .int n), ("what", .str w)]))) ∧
  (badSizes ns = none → (b = true → ∀ t, H t = none → Q .non (upd (upd H t (.tup (ns.map V.int))) m (.ins CM dx [("sizes", .ref t)]))) ∧ (b = false → Q .non (upd H m (.ins CM dx [("sizes", .ref a)]))))
end Q

namespace Q
open PySem PySem.Spec PyProof.Rows L2
abbrev rLe : R2 := rI0 fun i j => .bl (decide (i ≤ j))
abbrev rLt : R2 := rI0 fun i j => .bl (decide (i < j))
/-- lo <= n <= hi as a test -/
theorem a_lele {lo n hi : Int} {ta tb tc : TE} {σ : L2.St} {H : Hp} (ha : Val ta σ H (.int lo)) (hb : Val tb σ H (.int n)) (hc : Val tc σ H (.int hi)) : Ans (tTest (tChain rLe rLe ta tb tc)) σ H (decide (lo ≤ n ∧ n ≤ hi)) := by
  intro Q q
  refine ha _ ?_
  refine hb _ ?_
  refine ⟨_, _, rfl, rfl, _, rfl, ?_⟩
  by_cases h1 : lo ≤ n
  · rw [decide_eq_true h1]
    refine iteT ?_
    refine hc _ ?_
    refine ⟨_, _, rfl, rfl, _, rfl, ?_⟩
    have e : decide (lo ≤ n ∧ n ≤ hi) = decide (n ≤ hi) := by
      by_cases h2 : n ≤ hi
      · rw [decide_eq_true h2, decide_eq_true ⟨h1, h2⟩]
      · rw [decide_eq_false h2, decide_eq_false (fun z => h2 z.2)]
    rw [← e]
    exact q
  · rw [decide_eq_false h1]
    refine iteF ⟨_, rfl, ?_⟩
    have e : decide (lo ≤ n ∧ n ≤ hi) = false := decide_eq_false (fun z => h1 z.1)
    rw [← e]
    exact q
theorem a_lelt {lo n hi : Int} {ta tb tc : TE} {σ : L2.St} {H : Hp} (ha : Val ta σ H (.int lo)) (hb : Val tb σ H (.int n)) (hc : Val tc σ H (.int hi)) : Ans (tTest (tChain rLe rLt ta tb tc)) σ H (decide (lo ≤ n ∧ n < hi)) := by
  intro Q q
  refine ha _ ?_
  refine hb _ ?_
  refine ⟨_, _, rfl, rfl, _, rfl, ?_⟩
  by_cases h1 : lo ≤ n
  · rw [decide_eq_true h1]
    refine iteT ?_
    refine hc _ ?_
    refine ⟨_, _, rfl, rfl, _, rfl, ?_⟩
    have e : decide (lo ≤ n ∧ n < hi) = decide (n < hi) := by
      by_cases h2 : n < hi
      · rw [decide_eq_true h2, decide_eq_true ⟨h1, h2⟩]
      · rw [decide_eq_false h2, decide_eq_false (fun z => h2 z.2)]
    rw [← e]
    exact q
  · rw [decide_eq_false h1]
    refine iteF ⟨_, rfl, ?_⟩
    have e : decide (lo ≤ n ∧ n < hi) = false := decide_eq_false (fun z => h1 z.1)
    rw [← e]
    exact q
/-- len of a list or a tuple -/
theorem v_len {b : Bool} {K : PySem.W.Frag} {te : TE} {σ : L2.St} {H : Hp} {p : Addr} {xs : List V} (ht : Val te σ H (.ref p)) (h : Sq b K H p xs) :
    Val (tCB (fun xs H Q => ∃ p ys, xs = [.ref p] ∧ (SqL K H p ys ∨ SqT K H p ys) ∧ Q (.int ys.length) H) (tCons te tNil)) σ H (.int xs.length) := by
  intro Q q
  refine ht _ ?_
  exact ⟨p, xs, rfl, h.or, q⟩
/-- an if whose test is known by now -/
theorem s_if {c : TT} {t u : TS} {D : Ends} {σ : L2.St} {H : Hp} {b : Bool} (h : Ans c σ H b) (h1 : b = true → t D σ H) (h2 : b = false → u D σ H) : tIfS c t u D σ H := by
  cases b with
  | true => exact st_yes h (h1 rfl)
  | false => exact st_no h (h2 rfl)
theorem find_none_take {ns : List Int} {p : Int → Bool} (h : ∀ n ∈ ns, p n = false) : ns.find? p = none := List.find?_eq_none.mpr fun n hn => by rw [h n hn]; decide
theorem find_at {ns : List Int} {p : Int → Bool} {i : Nat} {n : Int} (hi : ns[i]? = some n) (hp : p n = true) (hb : ∀ j m, j < i → ns[j]? = some m → p m = false) : ns.find? p = some n := by
  induction ns generalizing i with
  | nil => simp at hi
  | cons a r ih =>
    cases i with
    | zero =>
      simp at hi
      subst hi
      simp [List.find?, hp]
    | succ i =>
      have ha : p a = false := hb 0 a (Nat.succ_pos i) rfl
      have hi' : r[i]? = some n := by simpa using hi
      rw [List.find?_cons, ha]
      exact ih hi' fun j m hj hm => hb (j + 1) m (Nat.succ_lt_succ hj) (by simpa using hm)
theorem map_at {ns : List Int} {i : Nat} {x : V} (h : (ns.map V.int)[i]? = some x) : ∃ n, ns[i]? = some n ∧ x = V.int n := by
  rw [List.getElem?_map] at h
  cases e : ns[i]? with
  | none =>
    rw [e] at h
    cases h
  | some n =>
    rw [e] at h
    exact ⟨n, rfl, (Option.some.inj h).symm⟩
theorem g_name {i : Nat} {v : V} {σ : L2.St} {H : Hp} {R : L2.St → Hp → Prop} (q : R (σ.set i (some v)) H) : gName i v σ H R := q
theorem nd_t {p : Prop} [Decidable p] (h : (!decide p) = true) : ¬ p := by
  intro z
  rw [decide_eq_true z] at h
  cases h
theorem nd_f {p : Prop} [Decidable p] (h : (!decide p) = false) : p := by
  by_cases z : p
  · exact z
  · rw [decide_eq_false z] at h
    cases h
end Q

namespace Q
open PySem PySem.Spec PyProof.Rows L2 LamX
section
variable {X : Cx} {pz : List (Addr × Obj)} {σ : L2.St} {H HZ : Hp} {s s1 : Shared}
/-- x() in the def that was handed the lambda; what leaves it is wished for at the slots as they stand at the call -/
theorem pe_actS {CXg : CXT} {Eg : XK} {Ng : List Str} {qg : Str} {sg : Scope} {g f c' : Addr} {cdg pm ctv : Value} {params : Arguments} {body : Expr} {scope : Scope} {k i : Nat} {a : Str} {pn : List (Addr × Obj)}
    {xe : Value → Shared → Prop} {W : WX} {tb : XK → TE} {p1 p2 : Pos}
    (I : Inv X pz σ H s) (L : LamS X.env.scope scope)
    (hf : s.heap.get? f = some (PySem.W.kla_obj "<lambda>" (X.env.qual ++ "<lambda>") params body scope (cloFrom X.env.cells scope.names []) pm c' ctv)) (hfn : H f = none) (hfr : f ∉ frs X.stack)
    (hbi : bindArgs (PySem.W.kla_fn "<lambda>" (X.env.qual ++ "<lambda>") params body scope (cloFrom X.env.cells scope.names []) pm (.ref c') ctv) ⟨[], []⟩ = pure [])
    (tk : Takes ((cxOf CXg X.prog X.w X.K X.mg X.base Ng qg sg g cdg X.A X.stack s H Eg).tr pn xe) W) (hr : Room (k + 1) (X.A.deeper (envOfC qg sg s.heap.objs.size g cdg)))
    (hbo : ∀ (E : XK) (A : Around) (outer : List Env) (s : Shared) (H : Hp), Room k (A.deeper (lamEnv X scope s.heap.objs.size f c')) → PE (lamCx X A outer s H E scope f c') body (tb E))
    (hN : Ng[i]? = some a) (hv : Vis sg a) (hd : (a == ("__debug__" : Str)) = false := by decide) (hcd : (a == ("__classdict__" : Str)) = false := by decide) :
    PE ((cxOf CXg X.prog X.w X.K X.mg X.base Ng qg sg g cdg X.A X.stack s H Eg).tr pn xe) (.Call (.Name a p1) [] [] p2)
      (fun τ G R => τ[i]? = some (some (.ref f)) ∧ G c' = some (CodeO c' (X.env.qual ++ "<lambda>")) ∧ tb (WE W τ) σ G R) := by
  refine ⟨fun pq sZ τ G R IZ h => ?_⟩
  obtain ⟨e1, e2, e3⟩ := h
  have callee := (pe_var (X := (cxOf CXg X.prog X.w X.K X.mg X.base Ng qg sg g cdg X.A X.stack s H Eg).tr pn xe) (pos := p1) (i := i) hN hv hd hcd).run pq sZ τ G (fun v H1 => v = .ref f ∧ H1 = G) IZ ⟨.ref f, e1, rfl, rfl⟩
  refine wpAny_Call_Name_kw (thn callee fun u s1 hh => ?_)
  obtain ⟨v, H1, I1, r1, ev, eH⟩ := hh
  subst ev
  rw [eH] at I1
  obtain rfl : u = Value.ref f := r1
  have here : s1.heap.get? f = some (PySem.W.kla_obj "<lambda>" (X.env.qual ++ "<lambda>") params body scope (cloFrom X.env.cells scope.names []) pm c' ctv) :=
    I1.base.keep f _ hf hfn hfr (fun z => nomatch (show f ∈ ([] : List Addr) from z))
  refine PySem.W.callWith_F0 ⟨_, _, _, _, here⟩ ?_
  have un1 : Un (frs X.stack) [] H G s.heap s1.heap := I1.base
  obtain ⟨⟨oc, vs, t, hoc, hdc, hvc⟩, _, _⟩ := I1.hok c' _ e2
  have rc : codeAny (model X.prog X.w) (X.A.deeper (envOfC qg sg s.heap.objs.size g cdg)) (.call (.ref f) ⟨[], []⟩) (CR (L2.CX X.prog X.w) (envOfC qg sg s.heap.objs.size g cdg :: X.stack) X.prog X.w G s1 R (WE W τ)) s1 := by
    refine PySem.W.kla_callFunE hr.depth here rfl L.co L.gen rfl ⟨c', oc, vs, t, rfl, hoc, hdc, hvc⟩ ?_
    rw [hbi]
    refine wpAny_pure (wpAny_newFunctionEnv (fun y hy => (L.own y hy).2) (fun y hy => absurd hy (by simp)) (fun hN1 hns hsb => ⟨I1.nolimit.fresh _ hsb, ?_⟩) L.kind)
    show codeAny _ _ (.expr body (lamEnv X scope s1.heap.objs.size f c')) _ _
    have kp : ∀ b o, s1.heap.get? b = some o → hN1.get? b = some o := fun b o e => hsb.extBut b o (Nat.ne_of_lt (Heap.lt_size e)) (Heap.get?_push_of_some _ e)
    have J : Inv (lamCx X (X.A.deeper (envOfC qg sg s.heap.objs.size g cdg)) (envOfC qg sg s.heap.objs.size g cdg :: X.stack) s1 G (WE W τ) scope f c') [] σ G
        { s1 with heap := hN1, toks := s1.toks + ([] : List (Str × Value)).length } := lam_start2 I L I1.env0 hr.hd un1 hns kp
    refine PySem.W.kla_codeExpr (wpAny_mono ((hbo (WE W τ) _ _ s1 G (hr.deeper _)).run [] _ _ G R J e3) (fun v sE hq => ?_) fun e sE hq => hq)
    obtain ⟨w1, H2, J2, rv, q⟩ := hq
    exact ⟨w1, H2, J2.os, J2.bare, J2.base, J2.hok, rv, q⟩
  refine wpAny_call (codeAny_mono rc fun r sE hq => ?_)
  cases r with
  | error e => exact passAt tk τ pq G s1 e sE I1 hq
  | ok fl =>
    cases fl with
    | ret u => exact I1.after hq
    | next => exact False.elim hq
    | brk => exact False.elim hq
    | cont => exact False.elim hq
end
/-- the def that calls what it got, once, by its only parameter; TT: what it makes of the lambda's reading -/
def Gives (X : Cx) (Ng : List Str) (x : Str) (sg : Scope) (g : Addr) (cdg : Value) (bg : List Stmt) (a : Str) (q : Str) (TT : (XK → Hp → VK → Prop) → Hp → VK → Prop) : Prop :=
  ∀ (f c' : Addr) (s : Shared) (H : Hp) (R : VK) (tl : XK → Hp → VK → Prop),
    (∀ (W : WX) (pn : List (Addr × Obj)) (xe : Value → Shared → Prop) (p1 p2 : Pos), Takes ((cxOf C8.CX0 X.prog X.w X.K X.mg X.base Ng x sg g cdg X.A X.stack s H C8.E0).tr pn xe) W →
      PE ((cxOf C8.CX0 X.prog X.w X.K X.mg X.base Ng x sg g cdg X.A X.stack s H C8.E0).tr pn xe) (.Call (.Name a p1) [] [] p2) (fun τ G R => τ[0]? = some (some (.ref f)) ∧ G c' = some (CodeO c' q) ∧ tl (WE W τ) G R)) →
    H c' = some (CodeO c' q) → TT tl H R →
    ∃ t, PSs (cxOf C8.CX0 X.prog X.w X.K X.mg X.base Ng x sg g cdg X.A X.stack s H C8.E0).nox bg t ∧ t { nx := fun _ H' => R .non H', rt := R } (L2.start Ng [.ref f]) H
section
variable {X : Cx}
theorem pe_lamS {T : List (Addr × Str)} {TT : (XK → Hp → VK → Prop) → Hp → VK → Prop} {x a : Str} {g c P : Addr} {k : Nat} {pg : Arguments} {bg : List Stmt} {sg : Scope} {dV kV doc pm cdv ct oc : Value} {an od : Option Addr} {osl : Array (Option Value)} {Ng : List Str}
    {params : Arguments} {body : Expr} {scope : Scope} {t : XK → TE} {p lpos pos : Pos} (hg : Gl X x) (hm : X.mg x = some (.ref g)) (hk : PySem.W.keepIn X.K (.ref g) = true)
    (lk : X.K.lookup g = some ⟨oc, od, .func (PySem.W.fnOf x x pg bg sg dV kV doc pm an cdv ct), osl⟩) (hcg : PySem.W.codeIn X.K cdv x = true)
    (hb : L2.Binds X.K (PySem.W.fnOf x x pg bg sg dV kV doc pm an cdv ct) [a] []) (Sg : FnScope Ng [a] sg) (hNg : Ng[0]? = some a) (hva : Vis sg a)
    (hG : Gives X Ng x sg g cdv bg a (X.env.qual ++ "<lambda>") TT)
    (TB : TabB X.base X.mg c P) (hcode : X.env.code = .ref c) (hmT : (P, X.env.qual ++ "<lambda>") ∈ T) (hu : ∀ p ∈ T, p.1 = P → p.2 = X.env.qual ++ "<lambda>") (hr : Room (k + 2) X.A) (L : LamS X.env.scope scope)
    (hdef : defaultsOf params X.env = ([], []))
    (hbi : ∀ (q : Str) (cl : List (Str × Addr)) (pm cv ctv : Value), bindArgs (PySem.W.kla_fn "<lambda>" q params body scope cl pm cv ctv) ⟨[], []⟩ = pure [])
    (hbo : ∀ (E : XK) (A : Around) (outer : List Env) (s : Shared) (H : Hp) (f c' : Addr), Room k (A.deeper (lamEnv X scope s.heap.objs.size f c')) → PE (lamCx X A outer s H E scope f c') body (t E))
    (hdb : (x == ("__debug__" : Str)) = false := by decide) (hd : (a == ("__debug__" : Str)) = false := by decide) (hcd : (a == ("__classdict__" : Str)) = false := by decide) :
    PE X (.Call (.Name x p) [.Lambda params body scope lpos] [] pos) (tLam T TT t) := by
  refine ⟨fun pz s σ H R I h => ?_⟩
  obtain ⟨hT, h2⟩ := h
  refine wpAny_Call_Name_kw (ld_glob I hg hm ?_ hdb)
  refine PySem.W.callWith_K (h₀ := X.base) I.ok.mod.kin hk ?_ (by rfl) (by rfl)
  show wpAny _ _ (spliced ((false, eval (.Lambda params body scope lpos) X.env) :: backTo pos (starEach [] X.env))) _ _ s
  refine Calls.spliced_cons (lam_make2 I TB hcode hmT hu hT hdef (L.has I.ok) fun f c' pm1 ctv H1 s1 I1 eN T1 hf hfn hfr hco => ?_)
  refine Calls.spliced_nil ⟨I1.kIn, ?_⟩
  have rc : codeAny (model X.prog X.w) X.A (.call (.ref g) ⟨[.ref f], []⟩) (CR C8.CX0 X.stack X.prog X.w H1 s1 R C8.E0) s1 := by
    refine run_ofS (N := Ng) (ps := [a]) (us := [.ref f]) (vs := [.ref f]) lk hcg Sg hr I1.env0 (hb s1 [.ref f] I1.kIn rfl) (.cons rfl .nil) rfl fun hr1 => ?_
    obtain ⟨t1, ht1, hq1⟩ := hG f c' s1 H1 R (fun E G Q' => t E σ G Q')
      (fun W pn xe p1 p2 tk => pe_actS (i := 0) I1 L hf hfn hfr (hbi _ _ _ _ _) tk hr1 (fun E A outer s H hr2 => hbo E A outer s H f c' hr2) hNg hva hd hcd) hco (h2 H1 eN T1)
    exact ⟨t1, ht1.nox, hq1⟩
  refine wpAny_call (codeAny_mono rc fun r s2 hq => ?_)
  cases r with
  | error e => exact (show False from hq).elim
  | ok fl =>
    cases fl with
    | ret u => exact I1.after hq
    | next => exact False.elim hq
    | brk => exact False.elim hq
    | cont => exact False.elim hq
end
end Q

namespace Q
open PySem PySem.Spec PyProof.Rows L2 LamX
/-- told of a call that ends well or in an error of the class at CB with two fields: ('ok', value), or ('count', what, count) -/
def TOut (CB : Addr) : (XK → Hp → VK → Prop) → Hp → VK → Prop := fun tl H R => ∀ (E' : XK) (R' : VK),
  (∀ (d : Addr) (w n : V) (H' : Hp), H' d = some (.xd [("count", n), ("what", w)]) → (∀ p, H' p = none → R (.ref p) (upd H' p (.tup [.str "count", w, n]))) → E' (.ref CB) (some d) H') →
  (∀ (v : V) (H1 : Hp), (∀ p, H1 p = none → R (.ref p) (upd H1 p (.tup [.str "ok", v]))) → R' v H1) → tl E' H R'
end Q

namespace Q
open PySem PySem.Spec PyProof.Rows L2 LamX
theorem Tabs.ks {T : List (Addr × Str)} {S : Addr} {H H' : Hp} (t : Tabs T H) (hS : HasSrc S H) (e : Ks S H H') : Tabs T H' := fun p hp => by
  obtain ⟨a, b, c, hS⟩ := hS
  obtain ⟨ps, h1, h2, h3⟩ := t p hp
  refine ⟨ps, e _ _ h1 (fun z => ?_), h2, fun pos cv hc => ?_⟩
  · rw [z, hS] at h1
    cases h1
  · obtain ⟨c1, e1, e2⟩ := h3 pos cv hc
    refine ⟨c1, e1, e _ _ e2 (fun z => ?_)⟩
    rw [z, hS] at e2
    unfold CodeO at e2
    cases e2
/-- all but S and the tables is as it was -/
def Kp (S : Addr) (H H' : Hp) : Prop := ∀ b o, H b = some o → b ≠ S → (∀ ps, o ≠ .tbl ps) → H' b = some o
theorem Kp.refl (S : Addr) (H : Hp) : Kp S H H := fun _ _ h _ _ => h
theorem Kp.trans {S : Addr} {H H1 H2 : Hp} (a : Kp S H H1) (b : Kp S H1 H2) : Kp S H H2 := fun c o h n t => b c o (a c o h n t) n t
theorem Kp.ks {S : Addr} {H H' : Hp} (e : Ks S H H') : Kp S H H' := fun b o h n _ => e b o h n
theorem Kp.ext {S : Addr} {H H' : Hp} (e : ExtN H H') : Kp S H H' := fun b o h _ t => e b o h t
theorem Kp.mut {S p : Addr} {H H' : Hp} {o : HO} (e : Kp S H H') (h : H p = none) : Kp S H (L2.upd H' p o) := fun b u hb n t => by
  rw [upd_ne (ne_of_none hb h)]
  exact e b u hb n t
theorem ExtN.src {S : Addr} {H H' : Hp} (e : ExtN H H') (h : HasSrc S H) : HasSrc S H' := by
  obtain ⟨a, b, c, hS⟩ := h
  exact ⟨a, b, c, e _ _ hS (fun ps z => by cases z)⟩
theorem Same.src {S : Addr} {H H' : Hp} (e : Same H H') (h : HasSrc S H) : HasSrc S H' := by
  obtain ⟨a, b, c, hS⟩ := h
  exact ⟨a, b, c, e _ _ hS⟩
theorem src_ne {S p : Addr} {H : Hp} {o : HO} (h : HasSrc S H) (hp : H p = none) : p ≠ S := fun z => by
  obtain ⟨a, b, c, hS⟩ := h
  rw [z, hS] at hp
  cases hp
theorem ne_src {S p : Addr} {H : Hp} (h : HasSrc S H) (hp : H p = none) : S ≠ p := fun z => by
  obtain ⟨a, b, c, hS⟩ := h
  rw [z] at hS
  rw [hS] at hp
  cases hp
theorem src_new {S p : Addr} {H : Hp} {o : HO} (h : HasSrc S H) (hp : H p = none) : HasSrc S (L2.upd H p o) := Same.src (Same.new hp) h
theorem src_mut {S p : Addr} {H : Hp} {o : HO} (h : HasSrc S H) (hp : S ≠ p) : HasSrc S (L2.upd H p o) := by
  obtain ⟨a, b, c, hS⟩ := h
  exact ⟨a, b, c, by rw [upd_ne hp]; exact hS⟩
mutual
theorem dp_mono {K : PySem.W.Frag} {H H' : Hp} (e : ∀ a o, H a = some o → (∀ ps, o ≠ .tbl ps) → H' a = some o) : ∀ (d : PyData) (v : V), Dp K H v d → Dp K H' v d
  | .none, _, .non => .non
  | .bool _, _, .bl b => .bl b
  | .int _, _, .int i => .int i
  | .str _, _, .str x => .str x
  | .list ds, _, .lst hs ha => .lst (by
      rcases hs with (h | ⟨o, h⟩) | h
      · exact .inl (.inl (e _ _ h (fun ps z => by cases z)))
      · exact .inl (.inr ⟨o, e _ _ h (fun ps z => by cases z)⟩)
      · exact .inr h) (dpAll_mono e ds _ ha)
  | .tuple ds, _, .tup hs ha => .tup (by
      rcases hs with (h | ⟨o, h⟩) | h
      · exact .inl (.inl (e _ _ h (fun ps z => by cases z)))
      · exact .inl (.inr ⟨o, e _ _ h (fun ps z => by cases z)⟩)
      · exact .inr h) (dpAll_mono e ds _ ha)
theorem dpAll_mono {K : PySem.W.Frag} {H H' : Hp} (e : ∀ a o, H a = some o → (∀ ps, o ≠ .tbl ps) → H' a = some o) : ∀ (ds : List PyData) (vs : List V), DpAll K H vs ds → DpAll K H' vs ds
  | [], _, .nil => .nil
  | d :: ds, _, .cons h1 h2 => .cons (dp_mono e d _ h1) (dpAll_mono e ds _ h2)
end
theorem dp_ext {K : PySem.W.Frag} {H H' : Hp} {v : V} {d : PyData} (e : ExtN H H') (h : Dp K H v d) : Dp K H' v d := dp_mono (fun a o z n => e a o z n) d v h
theorem dp_same {K : PySem.W.Frag} {H H' : Hp} {v : V} {d : PyData} (e : Same H H') (h : Dp K H v d) : Dp K H' v d := dp_mono (fun a o z _ => e a o z) d v h
theorem dpAll_ints {K : PySem.W.Frag} {H : Hp} : ∀ ns : List Int, DpAll K H (ns.map V.int) (ns.map PyData.int)
  | [] => .nil
  | n :: r => .cons (.int n) (dpAll_ints r)
theorem lay_ints : ∀ ns : List Int, PyData.canLayAll0 (ns.map PyData.int) = true
  | [] => rfl
  | n :: r => by
    show (true && PyData.canLayAll0 (r.map PyData.int)) = true
    rw [lay_ints r]
    rfl
theorem depth_ints : ∀ ns : List Int, PyData.depthAll (ns.map PyData.int) = 0
  | [] => rfl
  | n :: r => by
    show max 0 (PyData.depthAll (r.map PyData.int)) = 0
    rw [depth_ints r]
    rfl
theorem eqv_same {d : PyData} (h : SeqAt.shaped d = true) : PyData.eqv d d = true := SeqAt.eqv_refl d (SeqAt.canLay_of_shaped h)
end Q

namespace Q
open PySem PySem.Spec PyProof.Rows L2 LamX
theorem Tabs.lst {T : List (Addr × Str)} {D : Addr} {H : Hp} {xs : List V} {o : HO} (t : Tabs T H) (hD : H D = some (.lst xs)) : Tabs T (upd H D o) := fun p hp => by
  obtain ⟨ps, h1, h2, h3⟩ := t p hp
  refine ⟨ps, ?_, h2, fun pos cv hc => ?_⟩
  · rw [upd_ne (fun z => ?_)]
    · exact h1
    · rw [z, hD] at h1
      cases h1
  · obtain ⟨c1, e1, e2⟩ := h3 pos cv hc
    refine ⟨c1, e1, ?_⟩
    rw [upd_ne (fun z => ?_)]
    · exact e2
    · rw [z, hD] at e2
      unfold CodeO at e2
      cases e2
/-- nothing but a table, if anything -/
def NoO (H : Hp) (p : Addr) : Prop := ∀ o, H p = some o → ∃ ps, o = .tbl ps
theorem Kp.mutN {S p : Addr} {H H' : Hp} {o : HO} (e : Kp S H H') (h : NoO H p) : Kp S H (L2.upd H' p o) := fun b u hb n t => by
  rw [upd_ne (fun z => ?_)]
  · exact e b u hb n t
  · rw [z] at hb
    obtain ⟨ps, q⟩ := h u hb
    exact t ps q
/-- how a law's def stands within its run: what was there, the source, the tables -/
structure Now (T : List (Addr × Str)) (S : Addr) (H0 H : Hp) : Prop where
  kp : Kp S H0 H
  hs : HasSrc S H
  tb : Tabs T H
section
variable {T : List (Addr × Str)} {S p D : Addr} {H0 H H' : Hp} {o : HO} {xs : List V}
theorem Now.new (n : Now T S H0 H) (h : H p = none) : Now T S H0 (upd H p o) :=
  ⟨n.kp.trans (Kp.ks (Ks.of (Same.new h))), src_new n.hs h, n.tb.ext (Same.new h)⟩
theorem Now.ks (n : Now T S H0 H) (k : Ks S H H') (h : HasSrc S H') : Now T S H0 H' := ⟨n.kp.trans (Kp.ks k), h, Tabs.ks n.tb n.hs k⟩
theorem Now.same (n : Now T S H0 H) (k : Same H H') : Now T S H0 H' := ⟨n.kp.trans (Kp.ks (Ks.of k)), Same.src k n.hs, n.tb.ext k⟩
theorem Now.mut (n : Now T S H0 H) (hD : H D = some (.lst xs)) (h0 : NoO H0 D) (ne : D ≠ S) : Now T S H0 (upd H D o) := ⟨n.kp.mutN h0, src_mut n.hs (Ne.symm ne), Tabs.lst n.tb hD⟩
theorem Now.ext (n : Now T S H0 H) (e : ExtN H H') (t : Tabs T H') : Now T S H0 H' := ⟨n.kp.trans (Kp.ext e), ExtN.src e n.hs, t⟩
theorem Now.noS (n : Now T S H0 H) (h : H p = none) : p ≠ S := src_ne (o := .lst []) n.hs h
theorem Now.fresh (n : Now T S H0 H) (h : H p = none) : NoO H0 p := fun o q => by
  by_cases tt : ∃ ps, o = .tbl ps
  · exact tt
  · rw [n.kp p o q (n.noS h) (fun ps e => tt ⟨ps, e⟩)] at h
    cases h
end
theorem lc_yes {te no : Hp → Prop} {σ : L2.St} {H : Hp} (q : te H) : tYes σ H (fun b H3 => if b = true then te H3 else no H3) := by
  show (if true = true then te H else no H)
  exact iteT q
def hoOf (b : Bool) (xs : List V) : HO := match b with
  | true => .lst xs
  | false => .tup xs
theorem hoOf_tbl (b : Bool) (xs : List V) : ∀ ps, hoOf b xs ≠ .tbl ps := fun ps z => by cases b <;> cases z
theorem sq_hoOf {b : Bool} {K : PySem.W.Frag} {H : Hp} {a : Addr} {xs : List V} (h : H a = some (hoOf b xs)) : Sq b K H a xs := by
  cases b with
  | true => exact SqL.of h
  | false => exact SqT.of h
/-- what a memory of these sizes is told as -/
def dueOf (ns : List Int) : PyData := match badSizes ns with
  | none => .tuple [.str "ok", .tuple (ns.map PyData.int)]
  | some (w, n) => .tuple [.str "count", .str w, .int n]
theorem ok_shaped (ns : List Int) : SeqAt.shaped (.tuple [.str "ok", .tuple (ns.map PyData.int)]) = true := by
  have h1 : PyData.canLay0 (.tuple [.str "ok", .tuple (ns.map PyData.int)]) = true := by
    simp only [PyData.canLay0, PyData.canLayAll0, lay_ints, Bool.and_true]
    decide +kernel
  have h2 : PyData.depth (.tuple [.str "ok", .tuple (ns.map PyData.int)]) ≤ 64 := by
    simp [PyData.depth, PyData.depthAll, depth_ints]
  unfold SeqAt.shaped
  rw [h1, decide_eq_true h2]
  rfl
theorem count_shaped {w : Str} (n : Int) (hw : PyData.canLay0 (.str w) = true) : SeqAt.shaped (.tuple [.str "count", .str w, .int n]) = true := by
  have h1 : PyData.canLay0 (.tuple [.str "count", .str w, .int n]) = true := by
    have e : PyData.canLay0 (.tuple [.str "count", .str w, .int n]) = (PyData.canLay0 (.str "count") && (PyData.canLay0 (.str w) && true)) := rfl
    rw [e, hw]
    decide +kernel
  have h2 : PyData.depth (.tuple [.str "count", .str w, .int n]) ≤ 64 := by
    simp [PyData.depth, PyData.depthAll]
  unfold SeqAt.shaped
  rw [h1, decide_eq_true h2]
  rfl
theorem bad_words {ns : List Int} {w : Str} {n : Int} (h : badSizes ns = some (w, n)) : w = "lines" ∨ w = "words" := by
  unfold badSizes at h
  split at h
  · cases e : ns.find? fun n => !decide (1 ≤ n ∧ n ≤ 4) with
    | none =>
      rw [e] at h
      cases h
    | some m =>
      rw [e] at h
      cases h
      exact .inr rfl
  · cases h
    exact .inl rfl
theorem due_shaped (ns : List Int) : SeqAt.shaped (dueOf ns) = true := by
  unfold dueOf
  cases e : badSizes ns with
  | none => exact ok_shaped ns
  | some p =>
    obtain ⟨w, n⟩ := p
    refine count_shaped n ?_
    rcases bad_words e with h | h <;> (rw [h]; decide +kernel)
end Q

namespace Q
open PySem PySem.Spec PyProof.Rows L2 LamX
/-! ### a class without __init__, called; isinstance of own classes -/
structure Bare (K : PySem.W.Frag) (mg : Str → Option Value) (x : Str) (C : Addr) : Prop where
  gC : mg x = some (.ref C)
  makes : PySem.W.makesIn K C = true
  init : PySem.W.findIn K (.ref C) "__init__" = some (some (.builtin "object.__init__"))
  kp : PySem.W.keepIn K (.ref C) = true
  top : PySem.W.mroIn K C (.type "object") = some true
section
variable {X : Cx} {C : Addr} {x : Str} {p pos : Pos}
theorem pe_bare (M : Bare X.K X.mg x C) (hg : Gl X x) (hdb : (x == ("__debug__" : Str)) = false := by decide) :
    PE X (.Call (.Name x p) [] [] pos) (fun σ H Q => ∀ y dx, H y = none → H dx = none → dx ≠ y → Q (.ref y) (upd (upd H dx (.own y)) y (.ins C dx []))) := by
  refine ⟨fun pz s σ H Q I h => ?_⟩
  refine wpAny_Call_Name_kw (ld_glob I hg M.gC ?_ hdb)
  refine PySem.W.callWith_K0 I.kIn M.kp ?_
  have hq := h (s.heap.objs.size + 1) s.heap.objs.size (I.hok.fresh (Nat.le_succ _)) (I.hok.fresh (Nat.le_refl _)) (Nat.ne_of_lt (Nat.lt_succ_self _))
  have I2 := Inv.made (C := C) I
  have X2 := I2.kIn
  refine wpAny_call (make_map0 I.kIn M.makes M.init (fun self => PySem.W.Looks.of_pure (PySem.W.oi_bind _)) ?_)
  have hk : ({ s with heap := (s.heap.push PySem.W.emptyDict).push (PySem.W.instObj C s.heap.objs.size) } : Shared).heap.get? (s.heap.objs.size + 1) = some (PySem.W.instObj C s.heap.objs.size) := by
    show ((s.heap.push PySem.W.emptyDict).push (PySem.W.instObj C s.heap.objs.size)).get? (s.heap.objs.size + 1) = _
    heap_get
  have t1 : PySem.W.Looks (model X.prog X.w) ({ s with heap := (s.heap.push PySem.W.emptyDict).push (PySem.W.instObj C s.heap.objs.size) } : Shared).heap (typeOf (.ref (s.heap.objs.size + 1))) (.ref C) := NwA.type_at hk rfl
  have t2 : PySem.W.Looks (model X.prog X.w) ({ s with heap := (s.heap.push PySem.W.emptyDict).push (PySem.W.instObj C s.heap.objs.size) } : Shared).heap (isInstance (.ref (s.heap.objs.size + 1)) (.type "object")) true :=
    t1.andThen (PySem.W.looks_mroIn X2 M.top)
  refine codeAny_call_builtin PySem.W.oi_plain PySem.W.entry_oi (@PySem.W.check_slot (model X.prog X.w) _ _ _ "object.__init__" "object" "__init__" (.ref (s.heap.objs.size + 1)) [] [] _ PySem.W.oi_kind PySem.W.oi_split t2 (NwA.oi_args_any _ [] []) ?_)
  rw [PySem.W.oi_run]
  exact wpAny_pure ⟨rfl, ⟨V.ref (s.heap.objs.size + 1), _, I2, rfl, hq⟩⟩
end
end Q

namespace Q
open PySem PySem.Spec PyProof.Rows L2 LamX
theorem ne_plain : plainId "object.__ne__" = true := by decide +kernel
theorem ne_bind (self : Value) : bindSpecial (.builtin "object.__ne__") self = pure (.builtin "object.__ne__", [self]) :=
  (Slot.of (T := "object") (name := "__ne__") (owner := "object") (n := "__ne__") (by rw [typeLookup_type, builtinLookup_eq_fast]; kernel_rfl) (by decide +kernel) (by decide +kernel) (by decide +kernel)
    (.inl (by decide +kernel)) (by rw [isSubtype_type]; kernel_rfl)).bind self
section
variable {prog : Program} {w : World} {A : Around} {E : Value → Shared → Prop} {s : Shared} {K : PySem.W.Frag} {x C L f : Addr} {h₀ : Heap} {m : Str → Option Value} {ox : Obj} {od : Option Obj} {name : Str} {b tb : Value}
theorem ifBoundB {M : Model} {args : List Value} {id : String} {Q : Option Value → Shared → Prop} (X : K.In s.heap) (I : PySem.W.InstAt s.heap x ox C od) (hs : PySem.W.findIn K (.ref C) name = some (some (.builtin id)))
    (hb : ∀ self, bindSpecial (.builtin id) self = pure (.builtin id, [self]))
    (h : wpAny M A (call (.builtin id) (.ref x :: args)) (fun v => Q (some v)) E s) : wpAny M A (callSpecialIfBound? (.ref x) name args) Q E s := by
  simp only [callSpecialIfBound?, bindSpecialIfBound?]
  refine wpAny_holding (wpAny_bind (wpAny_bind (wpAny_bind (I.type.here ((PySem.W.looks_findIn X hs).here ?_)))))
  refine wpAny_bind (wpAny_askSetting (wpAny_ite ?_))
  have last : wpAny M A (call (.builtin id) ([.ref x] ++ args) >>= fun v => pure (some v)) Q E s := wpAny_bind (wpAny_mono h (fun v sx hx => wpAny_pure hx) fun _ _ hx => hx)
  split
  · exact wpAny_bind ((PySem.W.Looks.of_pure (hb _)).here (wpAny_pure (by exact last)))
  · exact wpAny_tryCatch (wpAny_bind ((PySem.W.Looks.of_pure (hb _)).here (wpAny_pure (by exact last))))
theorem ne_own {Q : Value → Shared → Prop} (hu : A.units + 1 < cLine) (X : K.In s.heap) (I : PySem.W.InstAt s.heap x ox C od) (hb : PySem.W.Looks (model prog w) s.heap (typeOf b) (.ref C))
    (hn : PySem.W.findIn K (.ref C) "__ne__" = some (some (.builtin "object.__ne__"))) (hs : PySem.W.findIn K (.ref C) "__eq__" = some (some (.ref f))) (hf : PySem.W.isFn K (.ref f) = true) (ht : PySem.W.mroIn K C (.type "object") = some true)
    (h : wpAny (model prog w) A.in1 (call (.ref f) [.ref x, b]) (fun v s' => ∃ r, v = .bool r ∧ Q (.bool (!r)) s') E s) : wpAny (model prog w) A (richCompare .NotEq (.ref x) b) Q E s := by
  have one : wpAny (model prog w) A (tryCompare (.ref x) "__ne__" b) (fun r s' => ∃ v, r = some v ∧ Q v s') E s := by
    unfold tryCompare
    refine wpAny_bind (ifBoundB X I hn ne_bind (wpAny_call (codeAny_call_builtin ne_plain F.cmpEntry_ne ?_)))
    have tt : PySem.W.Looks (model prog w) s.heap (isInstance (.ref x) (.type "object")) true := I.type.andThen (PySem.W.looks_mroIn X ht)
    refine @PySem.W.check_slot (model prog w) _ _ _ "object.__ne__" "object" "__ne__" (.ref x) [b] [] _ F.cmpKind_ne F.cmpSplit_ne tt (F.cmpArgs_ne _ _) ?_
    unfold Builtin.«object.__ne__»
    repeat (first
      | with_reducible refine wpAny_cRoomFor (A := A.in1) (show A.in1.units < cLine from hu) ?_
      | (refine wpAny_bind (m := callSpecialIfBound? (.ref x) (Str.ofString "__eq__") [b]) (PySem.W.ifBound_K X I hs hf (wpAny_mono h (fun r sx hr => ?_) fun _ _ e => e)))
      | wp_step)
    obtain ⟨r, rfl, hq⟩ := hr
    repeat (first | exact ⟨_, rfl, hq⟩ | exact wpAny_pure ⟨_, rfl, hq⟩ | (refine wpAny_bind (m := truthy (.bool _)) (wpAny_truthy_bool ?_)) | wp_step)
  unfold richCompare
  simp only [oneThing_ref]
  refine wpAny_holding (wpAny_bind (wpAny_cRoomFor (Nat.lt_of_succ_lt hu) ?_))
  refine wpAny_bind (I.type.here (wpAny_bind (hb.here ?_)))
  rw [cmpInfo_NotEq]
  rw [show (Value.ref C != Value.ref C) = false from by simp]
  simp only [Bool.false_eq_true, if_false]
  refine wpAny_bind (wpAny_pure ?_)
  simp only [Bool.false_eq_true, if_false]
  refine wpAny_bind (wpAny_mono one (fun r sx z => ?_) fun _ _ e => e)
  obtain ⟨v, rfl, hq⟩ := z
  exact wpAny_pure hq
end
end Q

namespace Q
open PySem PySem.Spec PyProof.Rows L2 LamX
/-- a method by which two instances of the class at C are compared or added -/
structure Dun (P : Program) (w : World) (K : PySem.W.Frag) (mg : Str → Option Value) (base : Heap) (CX : CXT) (C : Addr) (m : Str) (k : Nat) (ps : List Str) (sp : Sp) : Prop where
  ex : ∃ (f : Addr) (fd : FuncData), FnOk P w K mg base CX k f fd ps sp ∧ PySem.W.findIn K (.ref C) m = some (some (.ref f)) ∧ PySem.W.isFn K (.ref f) = true ∧ Binds K fd ps []
section
variable {X : Cx} {CX : CXT} {C : Addr} {k : Nat} {ps : List Str} {sp : Sp} {E : XK}
/-- the callee runs, at any place below the frame -/
theorem run_at {A : Around} {f : Addr} {fd : FuncData} {pz : List (Addr × Obj)} {σ : L2.St} {H : Hp} {s : Shared} {R : VK} {us : List Value} {vs : List V} (hA : A.frames = X.A.frames) (F : FnOk X.prog X.w X.K X.mg X.base CX k f fd ps sp) (hr : Room k A) (hb : Binds X.K fd ps [])
    (hx : Passes CX X E) (I : Inv X pz σ H s) (r : Vals vs us) (h : sp vs H R E) : wpAny (model X.prog X.w) A (call (.ref f) us) (EP X pz σ R) X.xe s := by
  have e0 : Env0 X.prog X.w X.K X.mg X.base A X.stack s H := by
    have e := I.env0
    exact ⟨by rw [hA]; exact e.frames, e.mod, e.bs, e.bsz, e.funs, e.frf, e.hok, e.bare⟩
  have hl : us.length = ps.length := by rw [← r.length]; exact F.len _ _ _ _ h
  have b := hb s us I.kIn (by rw [List.append_nil]; exact hl)
  rw [List.append_nil] at b
  refine wpAny_call (codeAny_mono (F.run A X.stack s H ⟨us, []⟩ us vs R E hr e0 b r h) fun r sx hq => ?_)
  cases r with
  | error e => exact hx pz σ H s e sx I hq
  | ok fl =>
    cases fl with
    | ret u => exact I.after hq
    | next => exact False.elim hq
    | brk => exact False.elim hq
    | cont => exact False.elim hq
def rOwn (C : Addr) (sp : Sp) (E : XK) (g : Bool → Bool) : R2 := fun x y H Q => ∃ a b dx dy fs gs, x = .ref a ∧ y = .ref b ∧ H a = some (.ins C dx fs) ∧ H b = some (.ins C dy gs) ∧ sp [x, y] H (fun v H' => ∃ r, v = .bl r ∧ Q (.bl (g r)) H') E
theorem op_eqO (D : Dun X.prog X.w X.K X.mg X.base CX C "__eq__" k ps sp) (hr : Room k X.A) (hx : Passes CX X E) : OpR X (compareOp .Eq) (rOwn C sp E id) := by
  intro pz s σ H x y v u R I rx ry hq
  obtain ⟨f, fd, F, hs, hf, hb⟩ := D.ex
  obtain ⟨a, b, dx, dy, fs, gs, rfl, rfl, ha, hb', h⟩ := hq
  cases rx
  cases ry
  obtain ⟨mA, J, _⟩ := ins_get I.hok ha
  obtain ⟨mB, J2, _⟩ := ins_get I.hok hb'
  obtain ⟨od, J, _⟩ := J.look
  obtain ⟨od2, J2, _⟩ := J2.look
  obtain ⟨m, hF⟩ := I.fr
  refine PySem.W.cmp_ofEq (PySem.W.cmp_K (op := .Eq) (tb := .ref C) hr.units0 hF I.ok.mod.kin J J2.type (by simp [PySem.W.notFirst]) hs hf ?_)
  refine wpAny_mono (run_at rfl F hr hb hx I (show Vals [V.ref a, V.ref b] [Value.ref a, Value.ref b] from .cons rfl (.cons rfl .nil)) h) (fun v sx hq => ?_) fun _ _ e => e
  obtain ⟨z, H', I', rz, r, ez, q⟩ := hq
  subst ez
  cases rz
  exact ⟨.bl r, H', I', rfl, q⟩
theorem op_neO (D : Dun X.prog X.w X.K X.mg X.base CX C "__eq__" k ps sp) (hn : PySem.W.findIn X.K (.ref C) "__ne__" = some (some (.builtin "object.__ne__"))) (ht : PySem.W.mroIn X.K C (.type "object") = some true) (hr : Room (k + 1) X.A) (hx : Passes CX X E) :
    OpR X (compareOp .NotEq) (rOwn C sp E not) := by
  intro pz s σ H x y v u R I rx ry hq
  obtain ⟨f, fd, F, hs, hf, hb⟩ := D.ex
  obtain ⟨a, b, dx, dy, fs, gs, rfl, rfl, ha, hb', h⟩ := hq
  cases rx
  cases ry
  obtain ⟨mA, J, _⟩ := ins_get I.hok ha
  obtain ⟨mB, J2, _⟩ := ins_get I.hok hb'
  obtain ⟨od, J, _⟩ := J.look
  obtain ⟨od2, J2, _⟩ := J2.look
  refine PySem.W.cmp_ofNotEq (ne_own (by have := hr.un; omega) I.kIn J J2.type hn hs hf ht ?_)
  refine wpAny_mono (run_at rfl F hr.in1 hb hx I (show Vals [V.ref a, V.ref b] [Value.ref a, Value.ref b] from .cons rfl (.cons rfl .nil)) h) (fun v sx hq => ?_) fun _ _ e => e
  obtain ⟨z, H', I', rz, r, ez, q⟩ := hq
  subst ez
  obtain rfl : v = Value.bool r := rz
  exact ⟨r, rfl, .bl (!r), H', I', rfl, q⟩
/-- one + other of one class -/
def rPlus (C : Addr) (sp : Sp) (E : XK) : R2 := fun x y H Q => ∃ a b dx dy fs gs, x = .ref a ∧ y = .ref b ∧ H a = some (.ins C dx fs) ∧ H b = some (.ins C dy gs) ∧ sp [x, y] H (fun v H' => (∃ p, v = .ref p) ∧ Q v H') E
theorem op_addO (D : Dun X.prog X.w X.K X.mg X.base CX C "__add__" k ps sp) (hc : PySem.W.selfFirst X.K C = true) (hr : Room k X.A) (hx : Passes CX X E) : OpR X (binaryOp .Add) (rPlus C sp E) := by
  intro pz s σ H x y v u R I rx ry hq
  obtain ⟨f, fd, F, hs, hf, hb⟩ := D.ex
  obtain ⟨a, b, dx, dy, fs, gs, rfl, rfl, ha, hb', h⟩ := hq
  cases rx
  cases ry
  obtain ⟨mA, J, _⟩ := ins_get I.hok ha
  obtain ⟨mB, J2, _⟩ := ins_get I.hok hb'
  obtain ⟨od, J, _⟩ := J.look
  obtain ⟨od2, J2, _⟩ := J2.look
  obtain ⟨m, hF⟩ := I.fr
  refine PySem.W.binop_K (op := .Add) hF I.ok.mod.kin J J2.type hc hs hf ?_
  refine wpAny_mono (run_at rfl F hr hb hx I (show Vals [V.ref a, V.ref b] [Value.ref a, Value.ref b] from .cons rfl (.cons rfl .nil)) h) (fun v sx hq => ?_) fun _ _ e => e
  obtain ⟨z, H', I', rz, ⟨p, ez⟩, q⟩ := hq
  subst ez
  cases rz
  exact ⟨.ref p, H', I', rfl, q⟩
end
/-! ### isinstance of own classes -/
structure OwnC (K : PySem.W.Frag) (C : Addr) : Prop where
  cl : Cls K C
  ha : PySem.W.findIn K (.ref C) "__class__" = some (some (.builtin "object.__class__"))
  hn : PySem.W.specialIn K (.builtin "object.__class__") "__get__" = some (some (.builtin "getset_descriptor.__get__"))
  htk : PySem.W.takesIn K (.builtin "object.__class__") = some true
  hm : PySem.W.mroIn K C (.type "object") = some true
theorem kit_self {K : PySem.W.Frag} {C : Addr} : PySem.W.kitOne K (.ref C) (.ref C) = some true := by
  unfold PySem.W.kitOne
  rw [if_pos (by simp)]
theorem kit_no {K : PySem.W.Frag} {C D : Addr} (ne : C ≠ D) (h1 : PySem.W.isClsIn K D = true) (h2 : PySem.W.typeIn K (.ref D) = some (.type "type")) (h3 : PySem.W.subIn K (.ref C) (.ref D) = some false) : PySem.W.kitOne K (.ref C) (.ref D) = some false := by
  unfold PySem.W.kitOne
  rw [if_neg (by simpa using ne)]
  unfold PySem.W.kitCls
  have e2 : ((PySem.W.clsIn K D).isSome && PySem.W.typeIn K (.ref D) == some (.type "type")) = true := by
    have h5 : (PySem.W.clsIn K D).isSome = true := h1
    rw [h5, h2] <;> rfl
  show (if ((PySem.W.clsIn K D).isSome && PySem.W.typeIn K (.ref D) == some (.type "type")) = true then PySem.W.subIn K (.ref C) (.ref D) else none) = some false
  rw [if_pos e2]
  exact h3
/-- isinstance(x, D) of an instance of the class at C -/
theorem v_isi {K : PySem.W.Frag} {σ : L2.St} {H : Hp} {te tc : TE} {a C D dx : Addr} {fs : List (Str × V)} {b : Bool} (hx : Val te σ H (.ref a)) (hc : Val tc σ H (.ref D)) (o : OwnC K C) (ha : H a = some (.ins C dx fs)) (hk : PySem.W.kitOne K (.ref C) (.ref D) = some b) :
    Val (tCB (rIsi K) (tCons te (tCons tc tNil))) σ H (.bl b) := by
  intro Q q
  refine hx _ ?_
  refine hc _ ?_
  exact ⟨.ref a, .ref D, _, _, b, rfl, .own D, .base (.ins ha o.cl o.ha o.hn o.htk o.hm), hk, q⟩
end Q

namespace Q
open PySem PySem.Spec PyProof.Rows L2 LamX
section
variable {X : Cx}
/-- xs[i], ahead of xs[i] op= e -/
def rGetL (K : PySem.W.Frag) : V → V → Hp → VK → Prop := fun o i H Q => ∃ (p : Addr) (xs : List V) (j : Nat) (v : V), o = .ref p ∧ i = .int (j : Nat) ∧ SqL K H p xs ∧ xs[j]? = some v ∧ Q v H
theorem get_list : PGet X (rGetL X.K) := by
  intro pz s σ H o i ov iv R I ro ri h
  obtain ⟨p, xs, j, v, rfl, rfl, hq, he, q⟩ := h
  cases ro
  obtain ⟨t, rfl⟩ := ri
  obtain ⟨its, r, pl, hz⟩ := I.list hq
  obtain ⟨u, eu, ru⟩ := r.get he
  have hlt : j < its.length := (List.getElem?_eq_some_iff.mp eu).1
  have hl := r.length
  have hn := line63
  refine wpAny_getItem_list (k := (j : Int)) pl.isList (Int.natCast_nonneg j) (by omega) (by simpa using eu) ?_
  exact ⟨v, H, I, ru, q⟩
end
/-! ### commands, memories, programs: the data -/
inductive Cmd where
  | store (l w n : Int)
  | flush (l : Int)
  | fence
  deriving DecidableEq
/-- where the module's classes stand -/
structure Ad where
  st : Addr
  fl : Addr
  fe : Addr
  me : Addr
  pr : Addr
  bc : Addr
  nl : Addr
  nw : Addr
  nt : Addr
def Ad.cls (d : Ad) : Cmd → Addr
  | .store _ _ _ => d.st
  | .flush _ => d.fl
  | .fence => d.fe
def cmdFs : Cmd → List (Str × V)
  | .store l w n => [("line", .int l), ("word", .int w), ("number", .int n)]
  | .flush l => [("line", .int l)]
  | .fence => []
def All2 {α : Type} (R : V → α → Prop) (vs : List V) (cs : List α) : Prop := vs.length = cs.length ∧ ∀ (i : Nat) (v : V) (c : α), vs[i]? = some v → cs[i]? = some c → R v c
theorem All2.mono {α : Type} {R R' : V → α → Prop} {vs : List V} {cs : List α} (h : ∀ v c, R v c → R' v c) (a : All2 R vs cs) : All2 R' vs cs := ⟨a.1, fun i v c h1 h2 => h v c (a.2 i v c h1 h2)⟩
theorem All2.nil {α : Type} {R : V → α → Prop} : All2 R [] [] := ⟨rfl, fun i v c h => by simp at h⟩
theorem All2.snoc {α : Type} {R : V → α → Prop} {vs : List V} {cs : List α} {v : V} {c : α} (a : All2 R vs cs) (h : R v c) : All2 R (vs ++ [v]) (cs ++ [c]) := by
  refine ⟨by rw [List.length_append, List.length_append, a.1]; rfl, fun i x y h1 h2 => ?_⟩
  by_cases hi : i < vs.length
  · rw [List.getElem?_append_left hi] at h1
    rw [List.getElem?_append_left (by rw [← a.1]; exact hi)] at h2
    exact a.2 i x y h1 h2
  · rw [List.getElem?_append_right (by omega)] at h1
    rw [List.getElem?_append_right (by rw [← a.1]; omega)] at h2
    have e : i - vs.length = 0 := by
      have q := (List.getElem?_eq_some_iff.mp h1).1
      simp at q
      omega
    rw [e] at h1
    rw [← a.1, e] at h2
    cases h1
    cases h2
    exact h
theorem All2.get {α : Type} {R : V → α → Prop} {vs : List V} {cs : List α} {i : Nat} {v : V} (a : All2 R vs cs) (h : vs[i]? = some v) : ∃ c, cs[i]? = some c ∧ R v c := by
  have hi : i < cs.length := by rw [← a.1]; exact (List.getElem?_eq_some_iff.mp h).1
  exact ⟨cs[i], by simp [hi], a.2 i v _ h (by simp [hi])⟩
theorem All2.get' {α : Type} {R : V → α → Prop} {vs : List V} {cs : List α} {i : Nat} {c : α} (a : All2 R vs cs) (h : cs[i]? = some c) : ∃ v, vs[i]? = some v ∧ R v c := by
  have hi : i < vs.length := by rw [a.1]; exact (List.getElem?_eq_some_iff.mp h).1
  exact ⟨vs[i], by simp [hi], a.2 i _ c (by simp [hi]) h⟩
theorem All2.take {α : Type} {R : V → α → Prop} {vs : List V} {cs : List α} (n : Nat) (a : All2 R vs cs) : All2 R (vs.take n) (cs.take n) :=
  ⟨by rw [List.length_take, List.length_take, a.1], fun i v c h1 h2 => by
    rw [List.getElem?_take] at h1 h2
    split at h1
    · rename_i q
      rw [if_pos q] at h2
      exact a.2 i v c h1 h2
    · cases h1⟩
theorem All2.drop {α : Type} {R : V → α → Prop} {vs : List V} {cs : List α} (n : Nat) (a : All2 R vs cs) : All2 R (vs.drop n) (cs.drop n) :=
  ⟨by rw [List.length_drop, List.length_drop, a.1], fun i v c h1 h2 => by
    rw [List.getElem?_drop] at h1 h2
    exact a.2 _ v c h1 h2⟩
theorem All2.app {α : Type} {R : V → α → Prop} {vs ws : List V} {cs ds : List α} (a : All2 R vs cs) (b : All2 R ws ds) : All2 R (vs ++ ws) (cs ++ ds) := by
  refine ⟨by rw [List.length_append, List.length_append, a.1, b.1], fun i x y h1 h2 => ?_⟩
  by_cases hi : i < vs.length
  · rw [List.getElem?_append_left hi] at h1
    rw [List.getElem?_append_left (by rw [← a.1]; exact hi)] at h2
    exact a.2 i x y h1 h2
  · rw [List.getElem?_append_right (by omega)] at h1
    rw [List.getElem?_append_right (by rw [← a.1]; omega)] at h2
    rw [← a.1] at h2
    exact b.2 _ x y h1 h2
/-- what is neither a list nor a table stands as it was -/
def Ke (H H' : Hp) : Prop := ∀ b o, H b = some o → (∀ xs, o ≠ .lst xs) → (∀ ps, o ≠ .tbl ps) → H' b = some o
theorem Ke.refl (H : Hp) : Ke H H := fun _ _ h _ _ => h
theorem Ke.trans {H H1 H2 : Hp} (a : Ke H H1) (b : Ke H1 H2) : Ke H H2 := fun c o h n t => b c o (a c o h n t) n t
theorem Ke.same {H H' : Hp} (e : Same H H') : Ke H H' := fun b o h _ _ => e b o h
theorem Ke.ext {H H' : Hp} (e : ExtN H H') : Ke H H' := fun b o h _ t => e b o h t
theorem Ke.ks {S : Addr} {H H' : Hp} (hs : HasSrc S H) (e : Ks S H H') : Ke H H' := fun b o h n _ => e b o h (fun z => by
  obtain ⟨x, y, c, hS⟩ := hs
  rw [z, hS] at h
  cases h
  exact n _ rfl)
theorem Ke.lst {H : Hp} {p : Addr} {xs : List V} {o : HO} (h : H p = some (.lst xs)) : Ke H (L2.upd H p o) := fun b u hb n _ => by
  rw [upd_ne (fun z => ?_)]
  · exact hb
  · rw [z, h] at hb
    cases hb
    exact n _ rfl
theorem Ke.kp {S : Addr} {H H' : Hp} (hs : HasSrc S H) (e : Kp S H H') : Ke H H' := fun b o h n t => e b o h (fun z => by
  obtain ⟨x, y, c, hS⟩ := hs
  rw [z, hS] at h
  cases h
  exact n _ rfl) t
theorem Now.ke {T : List (Addr × Str)} {S : Addr} {H0 H : Hp} (hs : HasSrc S H0) (n : Now T S H0 H) : Ke H0 H := Ke.kp hs n.kp
def CmdAt (d : Ad) (H : Hp) (v : V) (c : Cmd) : Prop := ∃ a dx, v = .ref a ∧ H a = some (.ins (d.cls c) dx (cmdFs c))
def MemAt (d : Ad) (H : Hp) (m : Addr) (ns : List Int) : Prop := ∃ dx t, H m = some (.ins d.me dx [("sizes", .ref t)]) ∧ H t = some (.tup (ns.map V.int))
def ProgAt (d : Ad) (H : Hp) (p : Addr) (ns : List Int) (cs : List Cmd) : Prop := ∃ dx m t vs, H p = some (.ins d.pr dx [("memory", .ref m), ("commands", .ref t)]) ∧ MemAt d H m ns ∧ H t = some (.tup vs) ∧ All2 (CmdAt d H) vs cs
theorem CmdAt.ke {d : Ad} {H H' : Hp} {v : V} {c : Cmd} (e : Ke H H') (h : CmdAt d H v c) : CmdAt d H' v c := by
  obtain ⟨a, dx, rfl, h⟩ := h
  exact ⟨a, dx, rfl, e _ _ h (fun _ z => by cases z) (fun _ z => by cases z)⟩
theorem MemAt.ke {d : Ad} {H H' : Hp} {m : Addr} {ns : List Int} (e : Ke H H') (h : MemAt d H m ns) : MemAt d H' m ns := by
  obtain ⟨dx, t, h1, h2⟩ := h
  exact ⟨dx, t, e _ _ h1 (fun _ z => by cases z) (fun _ z => by cases z), e _ _ h2 (fun _ z => by cases z) (fun _ z => by cases z)⟩
theorem ProgAt.ke {d : Ad} {H H' : Hp} {p : Addr} {ns : List Int} {cs : List Cmd} (e : Ke H H') (h : ProgAt d H p ns cs) : ProgAt d H' p ns cs := by
  obtain ⟨dx, m, t, vs, h1, h2, h3, h4⟩ := h
  exact ⟨dx, m, t, vs, e _ _ h1 (fun _ z => by cases z) (fun _ z => by cases z), h2.ke e, e _ _ h3 (fun _ z => by cases z) (fun _ z => by cases z), h4.mono fun v c q => q.ke e⟩
/-! ### what may be refused -/
inductive PErr where
  | count (w : Str) (n : Int)
  | line (n : Int)
  | word (n : Int)
  | time (n : Int)
def Ad.err (d : Ad) : PErr → Addr
  | .count _ _ => d.bc
  | .line _ => d.nl
  | .word _ => d.nw
  | .time _ => d.nt
def errFs : PErr → List (Str × V)
  | .count w n => [("count", .int n), ("what", .str w)]
  | .line n => [("line", .int n)]
  | .word n => [("word", .int n)]
  | .time n => [("time", .int n)]
/-- the error e is let out: its own dict is new -/
def Raised (d : Ad) (e : PErr) (E : XK) (H : Hp) : Prop := ∀ x, H x = none → E (.ref (d.err e)) (some x) (upd H x (.xd (errFs e)))
def lineErr (ns : List Int) (l : Int) : Option PErr := if 0 ≤ l ∧ l < ns.length then none else some (.line l)
def wordErr (ns : List Int) (l w : Int) : Option PErr := if 0 ≤ l ∧ l < ns.length then (if 0 ≤ w ∧ w < ns.getD l.toNat 0 then none else some (.word w)) else some (.line l)
def cmdErr (ns : List Int) : Cmd → Option PErr
  | .store l w _ => wordErr ns l w
  | .flush l => lineErr ns l
  | .fence => none
def progErr (ns : List Int) (cs : List Cmd) : Option PErr := if 200 < cs.length then some (.count "commands" cs.length) else cs.findSome? (cmdErr ns)
/-- how a check ends -/
def Checks (d : Ad) (o : Option PErr) (Q : VK) (E : XK) (H : Hp) : Prop := match o with
  | none => Q .non H
  | some e => Raised d e E H
def spStoreI (d : Ad) : Sp := fun vs H Q _ => ∃ x dx v1 v2 v3, vs = [.ref x, v1, v2, v3] ∧ H x = some (.ins d.st dx []) ∧ Q .non (upd H x (.ins d.st dx [("line", v1), ("word", v2), ("number", v3)]))
def spFlushI (d : Ad) : Sp := fun vs H Q _ => ∃ x dx v1, vs = [.ref x, v1] ∧ H x = some (.ins d.fl dx []) ∧ Q .non (upd H x (.ins d.fl dx [("line", v1)]))
def spLine (d : Ad) : Sp := fun vs H Q E => ∃ m ns l, vs = [.ref m, .int l] ∧ MemAt d H m ns ∧ Checks d (lineErr ns l) Q E H
def spWord (d : Ad) : Sp := fun vs H Q E => ∃ m ns l w, vs = [.ref m, .int l, .int w] ∧ MemAt d H m ns ∧ Checks d (wordErr ns l w) Q E H
def spCmd (d : Ad) : Sp := fun vs H Q E => ∃ m ns v c, vs = [.ref m, v] ∧ MemAt d H m ns ∧ CmdAt d H v c ∧ Checks d (cmdErr ns c) Q E H
def spCmds (d : Ad) (K : PySem.W.Frag) : Sp := fun vs H Q E => ∃ b m ns a xs cs, vs = [.ref m, .ref a] ∧ MemAt d H m ns ∧ Sq b K H a xs ∧ All2 (CmdAt d H) xs cs ∧ Checks d (progErr ns cs) Q E H
def spProgI (d : Ad) (K : PySem.W.Frag) : Sp := fun vs H Q E => ∃ b p dx m ns a xs cs, vs = [.ref p, .ref m, .ref a] ∧ H p = some (.ins d.pr dx []) ∧ MemAt d H m ns ∧ H a = some (hoOf b xs) ∧ All2 (CmdAt d H) xs cs ∧
  (∀ e, progErr ns cs = some e → Raised d e E H) ∧ (progErr ns cs = none → ∀ H', Ks p H H' → ProgAt d H' p ns cs → Q .non H')
end Q

namespace Q
open PySem PySem.Spec PyProof.Rows L2 LamX
theorem findSome_at {α β : Type} {f : α → Option β} {cs : List α} {i : Nat} {c : α} {e : β} (hi : cs[i]? = some c) (he : f c = some e) (hb : ∀ (j : Nat) (x : α), j < i → cs[j]? = some x → f x = none) : cs.findSome? f = some e := by
  induction cs generalizing i with
  | nil => simp at hi
  | cons a r ih =>
    cases i with
    | zero =>
      simp at hi
      subst hi
      simp [List.findSome?, he]
    | succ i =>
      have ha : f a = none := hb 0 a (Nat.succ_pos i) rfl
      have hi2 : r[i]? = some c := by simpa using hi
      rw [List.findSome?_cons, ha]
      exact ih hi2 fun j x hj hx => hb (j + 1) x (Nat.succ_lt_succ hj) (by simpa using hx)
end Q

namespace Q
open PySem PySem.Spec PyProof.Rows L2 LamX
/-! ### equality of tuples of numbers -/
theorem eqvAll_ints : ∀ ns ms : List Int, PyData.eqvAll (ns.map PyData.int) (ms.map PyData.int) = decide (ns = ms)
  | [], [] => rfl
  | [], m :: ms => by simp [PyData.eqvAll]
  | n :: ns, [] => by simp [PyData.eqvAll]
  | n :: ns, m :: ms => by
    show (PyData.eqv (.int n) (.int m) && PyData.eqvAll (ns.map PyData.int) (ms.map PyData.int)) = _
    rw [eqvAll_ints ns ms]
    have e : PyData.eqv (.int n) (.int m) = (n == m) := by simp [PyData.eqv]
    rw [e]
    by_cases h : n = m
    · subst h
      simp
    · have h2 : ¬ (n :: ns = m :: ms) := fun z => h (List.cons.inj z).1
      rw [decide_eq_false h2]
      simp [h]
theorem eqv_tup (ns ms : List Int) : PyData.eqv (.tuple (ns.map PyData.int)) (.tuple (ms.map PyData.int)) = decide (ns = ms) := by
  rw [PyData.eqv]
  exact eqvAll_ints ns ms
theorem shaped_tup (ns : List Int) : SeqAt.shaped (.tuple (ns.map PyData.int)) = true := by
  unfold SeqAt.shaped
  have h1 : PyData.canLay0 (.tuple (ns.map PyData.int)) = true := lay_ints ns
  have h2 : PyData.depth (.tuple (ns.map PyData.int)) ≤ 64 := by
    simp [PyData.depth, depth_ints]
  rw [h1, decide_eq_true h2]
  rfl
def spMemEq (d : Ad) : Sp := fun vs H Q _ => ∃ a b ns ms, vs = [.ref a, .ref b] ∧ MemAt d H a ns ∧ MemAt d H b ms ∧ Q (.bl (decide (ns = ms))) H
def spAdd (d : Ad) : Sp := fun vs H Q _ => ∃ p q ns cs es, vs = [.ref p, .ref q] ∧ ProgAt d H p ns cs ∧ ProgAt d H q ns es ∧ progErr ns (cs ++ es) = none ∧ cs.length + es.length ≤ 100000 ∧
  ∀ r H', Same H H' → ProgAt d H' r ns (cs ++ es) → Q (.ref r) H'
/-! ### what is made, flushed and sure as the commands go -/
structure Pg where
  d : List Int
  f : List Int
  s : List Int
def pstep (x : Pg) : Cmd → Pg
  | .store l _ _ => ⟨x.d.set l.toNat (x.d.getD l.toNat 0 + 1), x.f, x.s⟩
  | .flush l => ⟨x.d, x.f.set l.toNat (x.d.getD l.toNat 0), x.s⟩
  | .fence => ⟨x.d, x.f, x.f⟩
def pinit (n : Nat) : Pg := ⟨List.replicate n 0, List.replicate n 0, List.replicate n 0⟩
def prun (n : Nat) (cs : List Cmd) : Pg := cs.foldl pstep (pinit n)
theorem prun_snoc {n : Nat} {cs : List Cmd} {c : Cmd} : prun n (cs ++ [c]) = pstep (prun n cs) c := by
  unfold prun
  rw [List.foldl_append]
  rfl
theorem pstep_len {x : Pg} {n : Nat} (c : Cmd) (h : x.d.length = n ∧ x.f.length = n ∧ x.s.length = n) : (pstep x c).d.length = n ∧ (pstep x c).f.length = n ∧ (pstep x c).s.length = n := by
  obtain ⟨h1, h2, h3⟩ := h
  cases c with
  | store l w m => exact ⟨by simpa [pstep] using h1, h2, h3⟩
  | flush l => exact ⟨h1, by simpa [pstep] using h2, h3⟩
  | fence => exact ⟨h1, h2, h2⟩
theorem prun_len (n : Nat) (cs : List Cmd) : (prun n cs).d.length = n ∧ (prun n cs).f.length = n ∧ (prun n cs).s.length = n := by
  unfold prun
  have key : ∀ (l : List Cmd) (x : Pg), (x.d.length = n ∧ x.f.length = n ∧ x.s.length = n) → ((l.foldl pstep x).d.length = n ∧ (l.foldl pstep x).f.length = n ∧ (l.foldl pstep x).s.length = n) := by
    intro l
    induction l with
    | nil => exact fun _ h => h
    | cons c r ih => exact fun x h => ih _ (pstep_len c h)
  exact key cs _ ⟨by simp [pinit], by simp [pinit], by simp [pinit]⟩
theorem take_snoc {α : Type} {cs : List α} {i : Nat} {c : α} (h : cs[i]? = some c) : cs.take (i + 1) = cs.take i ++ [c] := by
  rw [List.take_add_one, h]
  rfl
def RowAt (H : Hp) (v : V) (x : Pg) : Prop := ∃ r a b, v = .ref r ∧ H r = some (.tup [.ref a, .ref b]) ∧ H a = some (.tup (x.d.map V.int)) ∧ H b = some (.tup (x.s.map V.int))
theorem RowAt.ke {H H' : Hp} {v : V} {x : Pg} (e : Ke H H') (h : RowAt H v x) : RowAt H' v x := by
  obtain ⟨r, a, b, rfl, h1, h2, h3⟩ := h
  exact ⟨r, a, b, rfl, e _ _ h1 (fun _ z => by cases z) (fun _ z => by cases z), e _ _ h2 (fun _ z => by cases z) (fun _ z => by cases z), e _ _ h3 (fun _ z => by cases z) (fun _ z => by cases z)⟩
def rowsOf (n : Nat) (cs : List Cmd) (i : Nat) : List Pg := (List.range i).map fun j => prun n (cs.take j)
theorem rowsOf_succ (n : Nat) (cs : List Cmd) (i : Nat) : rowsOf n cs (i + 1) = rowsOf n cs i ++ [prun n (cs.take i)] := by
  unfold rowsOf
  rw [List.range_succ, List.map_append]
  rfl
def Valid (ns : List Int) (cs : List Cmd) : Prop := ∀ c ∈ cs, cmdErr ns c = none
def spProgress (d : Ad) : Sp := fun vs H Q _ => ∃ p ns cs, vs = [.ref p] ∧ ProgAt d H p ns cs ∧ Valid ns cs ∧ ns.length ≤ 6 ∧ cs.length ≤ 200 ∧
  ∀ r xs H', Same H H' → H' r = some (.lst xs) → All2 (RowAt H') xs (rowsOf ns.length cs (cs.length + 1)) → Q (.ref r) H'
def timeErr (cs : List Cmd) (t : Int) : Option PErr := if 0 ≤ t ∧ t ≤ cs.length then none else some (.time t)
def spTime (d : Ad) : Sp := fun vs H Q E => ∃ p ns cs t, vs = [.ref p, .int t] ∧ ProgAt d H p ns cs ∧ Checks d (timeErr cs t) Q E H
def spAt (d : Ad) (sel : Pg → List Int) : Sp := fun vs H Q E => ∃ p ns cs t, vs = [.ref p, .int t] ∧ ProgAt d H p ns cs ∧ Valid ns cs ∧ ns.length ≤ 6 ∧ cs.length ≤ 200 ∧
  (∀ e, timeErr cs t = some e → Raised d e E H) ∧ (timeErr cs t = none → ∀ q H', Same H H' → H' q = some (.tup ((sel (prun ns.length (cs.take t.toNat))).map V.int)) → Q (.ref q) H')
theorem Ke.mut {H H' : Hp} {p : Addr} {xs : List V} {o : HO} (e : Ke H H') (h : H' p = some (.lst xs)) : Ke H (L2.upd H' p o) := e.trans (Ke.lst h)
theorem store_line {ns : List Int} {l w n : Int} (h : cmdErr ns (.store l w n) = none) : 0 ≤ l ∧ l < ns.length := by
  by_cases hl : 0 ≤ l ∧ l < ns.length
  · exact hl
  · have e : wordErr ns l w = some (.line l) := if_neg hl
    have e2 : wordErr ns l w = none := h
    rw [e] at e2
    cases e2
theorem flush_line {ns : List Int} {l : Int} (h : cmdErr ns (.flush l) = none) : 0 ≤ l ∧ l < ns.length := by
  by_cases hl : 0 ≤ l ∧ l < ns.length
  · exact hl
  · have e : lineErr ns l = some (.line l) := if_neg hl
    have e2 : lineErr ns l = none := h
    rw [e] at e2
    cases e2
theorem cons1 {te : TE} {σ : L2.St} {H : Hp} {R : List V → Hp → Prop} (h : te σ H fun x H1 => R [x] H1) : tCons te tNil σ H R := h
theorem asg_lst1 {te : TE} {g : TG} {D : Ends} {σ : L2.St} {H : Hp} (h : te σ H fun x H1 => 1 ≤ sizeLine ∧ ∀ p, H1 p = none → g (.ref p) σ (upd H1 p (.lst [x])) D.nx) : tAsg (tLst (tCons te tNil)) g D σ H := h
end Q

namespace Q
open PySem PySem.Spec PyProof.Rows L2 LamX
/-! ### what a law draws: kinds, specs -/
inductive Kd where
  | st
  | fl
  | fe
  deriving DecidableEq
def Kd.str : Kd → Str
  | .st => "store"
  | .fl => "flush"
  | .fe => "fence"
structure Sc where
  k : Kd
  a : Int
  b : Int
  c : Int
def scV (s : Sc) : List V := [.str s.k.str, .int s.a, .int s.b, .int s.c]
def SpecAt (H : Hp) (v : V) (s : Sc) : Prop := ∃ r, v = .ref r ∧ H r = some (.tup (scV s))
theorem SpecAt.ke {H H' : Hp} {v : V} {s : Sc} (e : Ke H H') (h : SpecAt H v s) : SpecAt H' v s := by
  obtain ⟨r, rfl, h⟩ := h
  exact ⟨r, rfl, e _ _ h (fun _ z => by cases z) (fun _ z => by cases z)⟩
/-- a list of specs at p -/
def Specs (H : Hp) (p : Addr) (ss : List Sc) : Prop := ∃ vs, H p = some (.lst vs) ∧ All2 (SpecAt H) vs ss
theorem Specs.ks {S : Addr} {H H' : Hp} {p : Addr} {ss : List Sc} (hs : HasSrc S H) (ne : p ≠ S) (e : Ks S H H') (h : Specs H p ss) : Specs H' p ss := by
  obtain ⟨vs, h1, h2⟩ := h
  exact ⟨vs, e _ _ h1 ne, h2.mono fun v c q => q.ke (Ke.ks hs e)⟩
theorem Specs.same {H H' : Hp} {p : Addr} {ss : List Sc} (e : Same H H') (h : Specs H p ss) : Specs H' p ss := by
  obtain ⟨vs, h1, h2⟩ := h
  exact ⟨vs, e _ _ h1, h2.mono fun v c q => q.ke (Ke.same e)⟩
theorem Specs.ext {H H' : Hp} {p : Addr} {ss : List Sc} (e : ExtN H H') (h : Specs H p ss) : Specs H' p ss := by
  obtain ⟨vs, h1, h2⟩ := h
  exact ⟨vs, e _ _ h1 (fun _ z => by cases z), h2.mono fun v c q => q.ke (Ke.ext e)⟩
def Sc.cmd (s : Sc) : Cmd := match s.k with
  | .st => .store s.a s.b s.c
  | .fl => .flush s.a
  | .fe => .fence
def cmds (ss : List Sc) : List Cmd := ss.map Sc.cmd
/-- the line and the word are there -/
def Good (ns : List Int) (s : Sc) : Prop := (0 ≤ s.a ∧ s.a < ns.length) ∧ 0 ≤ s.b ∧ s.b < ns.getD s.a.toNat 0
theorem Good.ok {ns : List Int} {s : Sc} (g : Good ns s) : cmdErr ns s.cmd = none := by
  obtain ⟨g1, g2⟩ := g
  obtain ⟨k, a, b, c⟩ := s
  cases k with
  | st =>
    show wordErr ns a b = none
    unfold wordErr
    rw [if_pos g1, if_pos g2]
  | fl => exact if_pos g1
  | fe => rfl
theorem valid_of {ns : List Int} {ss : List Sc} (g : ∀ s ∈ ss, Good ns s) : Valid ns (cmds ss) := fun c hc => by
  obtain ⟨s, hs, rfl⟩ := List.mem_map.mp hc
  exact (g s hs).ok
theorem progErr_of {ns : List Int} {cs : List Cmd} (v : Valid ns cs) (h : cs.length ≤ 200) : progErr ns cs = none := by
  unfold progErr
  rw [if_neg (by omega)]
  exact List.findSome?_eq_none_iff.mpr v
theorem cmds_len (ss : List Sc) : (cmds ss).length = ss.length := List.length_map ..
theorem cmds_take (ss : List Sc) (t : Nat) : (cmds ss).take t = cmds (ss.take t) := by
  unfold cmds
  rw [List.map_take]
def SizesOk (ns : List Int) : Prop := (1 ≤ ns.length ∧ ns.length ≤ 6) ∧ ∀ n ∈ ns, 1 ≤ n ∧ n ≤ 4
theorem SizesOk.bad {ns : List Int} (h : SizesOk ns) : badSizes ns = none := by
  have h1 : 1 ≤ (ns.length : Int) ∧ (ns.length : Int) ≤ 6 := by
    have := h.1
    omega
  unfold badSizes
  rw [if_pos h1]
  rw [List.find?_eq_none.mpr (fun n hn => by
    rw [decide_eq_true (h.2 n hn)]
    decide)]
  rfl
/-! ### the law's own search for what is made and sure -/
def isK (k : Kd) (s : Sc) : Bool := decide (s.k = k)
def lawMade (ss : List Sc) (n t : Nat) : List Int := (List.range n).map fun (a : Nat) => ((((ss.take t).filter (isK .st)).filter fun s => decide (s.a = (a : Int))).length : Int)
def sureStep (ss : List Sc) (n : Nat) (c : Nat → Bool) (r : List Int) (i : Nat) : List Int := match ss[i]? with
  | some s => if isK .fl s && c i then r.set s.a.toNat (max (r.getD s.a.toNat 0) ((lawMade ss n i).getD s.a.toNat 0)) else r
  | none => r
def sureFold (ss : List Sc) (n : Nat) (c : Nat → Bool) (t : Nat) : List Int := (List.range t).foldl (sureStep ss n c) (List.replicate n 0)
/-- is a fence among the commands from i on, ahead of t -/
def fenceIn (ss : List Sc) (i t : Nat) : Bool := !(((ss.drop i).take (t - i)).filter (isK .fe)).isEmpty
def lawSure (ss : List Sc) (n t : Nat) : List Int := sureFold ss n (fun i => fenceIn ss i t) t
theorem sureFold_succ (ss : List Sc) (n : Nat) (c : Nat → Bool) (t : Nat) : sureFold ss n c (t + 1) = sureStep ss n c (sureFold ss n c t) t := by
  unfold sureFold
  rw [List.range_succ, List.foldl_append]
  rfl
theorem sureFold_congr {ss : List Sc} {n : Nat} {c c' : Nat → Bool} : ∀ {t : Nat}, (∀ i, i < t → c i = c' i) → sureFold ss n c t = sureFold ss n c' t
  | 0, _ => rfl
  | t + 1, h => by
    rw [sureFold_succ, sureFold_succ, sureFold_congr (t := t) fun i hi => h i (by omega)]
    unfold sureStep
    rw [h t (by omega)]
theorem lawMade_len (ss : List Sc) (n t : Nat) : (lawMade ss n t).length = n := by simp [lawMade]
theorem lawMade_at {ss : List Sc} {n t a : Nat} (h : a < n) : (lawMade ss n t).getD a 0 = ((((ss.take t).filter (isK .st)).filter fun s => decide (s.a = (a : Int))).length : Int) := by
  unfold lawMade
  rw [List.getD_eq_getElem?_getD, List.getElem?_map, List.getElem?_range h]
  rfl
theorem lawMade_zero (ss : List Sc) (n : Nat) : lawMade ss n 0 = List.replicate n 0 := by
  refine List.ext_getElem (by simp [lawMade]) fun i h1 h2 => ?_
  simp [lawMade]
/-- one more command -/
theorem lawMade_succ {ss : List Sc} {n t : Nat} {s : Sc} (h : ss[t]? = some s) : lawMade ss n (t + 1) = if isK .st s then (lawMade ss n t).set s.a.toNat ((lawMade ss n t).getD s.a.toNat 0 + (if 0 ≤ s.a then 1 else 0)) else lawMade ss n t := by
  have ht : ss.take (t + 1) = ss.take t ++ [s] := take_snoc h
  by_cases hk : isK .st s = true
  · rw [if_pos hk]
    refine List.ext_getElem (by simp [lawMade]) fun i h1 h2 => ?_
    have hi : i < n := by simpa [lawMade] using h1
    rw [List.getElem_set]
    simp only [lawMade, List.getElem_map, List.getElem_range, ht, List.filter_append, hk, List.filter_cons, List.filter_nil, if_true, List.length_append]
    by_cases e : s.a = (i : Int)
    · have e2 : s.a.toNat = i := by omega
      rw [if_pos e2, e2]
      have q := lawMade_at (ss := ss) (t := t) hi
      unfold lawMade at q
      rw [q]
      simp [e]
    · by_cases e2 : s.a.toNat = i
      · have hneg : ¬ 0 ≤ s.a := by omega
        rw [if_pos e2, e2, if_neg hneg]
        have q := lawMade_at (ss := ss) (t := t) hi
        unfold lawMade at q
        rw [q]
        simp [e]
      · rw [if_neg e2]
        simp [e]
  · rw [if_neg hk]
    unfold lawMade
    refine List.map_congr_left fun a _ => ?_
    rw [ht, List.filter_append]
    simp [hk]
theorem get_set {l : List Int} {i j : Nat} {x : Int} (h : j < l.length) : (l.set i x).getD j 0 = if i = j then x else l.getD j 0 := by
  rw [List.getD_eq_getElem?_getD, List.getD_eq_getElem?_getD, List.getElem?_set]
  split
  · rename_i q
    subst q
    simp [h]
  · rfl
/-- the program's way: done and flushed, and that what is flushed is not more than what is done -/
theorem made_flushed {ss : List Sc} {ns : List Int} (g : ∀ s ∈ ss, Good ns s) : ∀ t, t ≤ ss.length →
    (prun ns.length (cmds (ss.take t))).d = lawMade ss ns.length t ∧ (prun ns.length (cmds (ss.take t))).f = sureFold ss ns.length (fun _ => true) t ∧
      ∀ a, a < ns.length → (sureFold ss ns.length (fun _ => true) t).getD a 0 ≤ (lawMade ss ns.length t).getD a 0
  | 0, _ => by
    refine ⟨?_, rfl, fun a ha => ?_⟩
    · rw [lawMade_zero]
      rfl
    · rw [lawMade_zero]
      exact Int.le_refl _
  | t + 1, h => by
    obtain ⟨i1, i2, i3⟩ := made_flushed g t (by omega)
    have hs : ss[t]? = some ss[t] := by simp [show t < ss.length by omega]
    generalize ss[t] = s at hs
    have hg : Good ns s := g s (List.mem_of_getElem? hs)
    have e : cmds (ss.take (t + 1)) = cmds (ss.take t) ++ [s.cmd] := by
      rw [take_snoc hs]
      simp [cmds]
    rw [e, prun_snoc, sureFold_succ, lawMade_succ hs]
    have l1 := lawMade_len ss ns.length t
    have l2 : (sureFold ss ns.length (fun _ => true) t).length = ns.length := by rw [← i2]; exact (prun_len _ _).2.1
    unfold sureStep
    rw [hs]
    obtain ⟨k, a, b, c⟩ := s
    have ha : 0 ≤ a ∧ a < ns.length := hg.1
    cases k with
    | st =>
      refine ⟨?_, ?_, fun x hx => ?_⟩
      · show (prun ns.length (cmds (ss.take t))).d.set a.toNat _ = _
        rw [i1]
        simp [isK, ha.1]
      · show (prun ns.length (cmds (ss.take t))).f = _
        rw [i2]
        simp [isK]
      · have q := i3 x hx
        simp only [isK, decide_true, if_true, ha.1, show (decide (Kd.st = Kd.fl)) = false from rfl, Bool.false_and, Bool.false_eq_true, if_false]
        rw [get_set (by omega)]
        split
        · rename_i z
          rw [z]
          omega
        · exact q
    | fl =>
      refine ⟨?_, ?_, fun x hx => ?_⟩
      · show (prun ns.length (cmds (ss.take t))).d = _
        rw [i1]
        simp [isK]
      · show (prun ns.length (cmds (ss.take t))).f.set a.toNat ((prun ns.length (cmds (ss.take t))).d.getD a.toNat 0) = _
        rw [i1, i2]
        have q := i3 a.toNat (by omega)
        simp only [isK, decide_true, Bool.and_true, if_true]
        rw [Int.max_eq_right q]
      · have q := i3 x hx
        simp only [isK, decide_true, Bool.and_true, if_true, show (decide (Kd.fl = Kd.st)) = false from rfl, Bool.false_eq_true, if_false]
        rw [get_set (by omega)]
        split
        · rename_i z
          rw [z]
          have q2 := i3 x hx
          rw [Int.max_eq_right q2]
          exact Int.le_refl _
        · exact q
    | fe =>
      refine ⟨?_, ?_, fun x hx => ?_⟩
      · show (prun ns.length (cmds (ss.take t))).d = _
        rw [i1]
        simp [isK]
      · show (prun ns.length (cmds (ss.take t))).f = _
        rw [i2]
        simp [isK]
      · have q := i3 x hx
        simpa [isK] using q
theorem fenceIn_succ {ss : List Sc} {i t : Nat} {s : Sc} (h : ss[t]? = some s) (hi : i ≤ t) : fenceIn ss i (t + 1) = (fenceIn ss i t || isK .fe s) := by
  unfold fenceIn
  have e : (ss.drop i).take (t + 1 - i) = (ss.drop i).take (t - i) ++ [s] := by
    rw [show t + 1 - i = (t - i) + 1 by omega]
    refine take_snoc ?_
    rw [List.getElem?_drop, show i + (t - i) = t by omega]
    exact h
  rw [e, List.filter_append]
  by_cases q : isK .fe s = true
  · simp [q]
  · simp [q]
theorem sure_is {ss : List Sc} {ns : List Int} (g : ∀ s ∈ ss, Good ns s) : ∀ t, t ≤ ss.length → (prun ns.length (cmds (ss.take t))).s = lawSure ss ns.length t
  | 0, _ => rfl
  | t + 1, h => by
    have ih := sure_is g t (by omega)
    obtain ⟨i1, i2, i3⟩ := made_flushed g t (by omega)
    have hs : ss[t]? = some ss[t] := by simp [show t < ss.length by omega]
    generalize ss[t] = s at hs
    have e : cmds (ss.take (t + 1)) = cmds (ss.take t) ++ [s.cmd] := by
      rw [take_snoc hs]
      simp [cmds]
    rw [e, prun_snoc]
    unfold lawSure
    rw [sureFold_succ]
    by_cases hk : isK .fe s = true
    · have hkf : isK .fl s = false := by
        have : s.k = .fe := by simpa [isK] using hk
        simp [isK, this]
      have e2 : sureFold ss ns.length (fun i => fenceIn ss i (t + 1)) t = sureFold ss ns.length (fun _ => true) t := sureFold_congr fun i hi => by
        rw [fenceIn_succ hs (by omega), hk, Bool.or_true]
      rw [e2]
      unfold sureStep
      rw [hs]
      simp only [hkf, Bool.false_and, Bool.false_eq_true, if_false]
      rw [← i2]
      have : s.k = .fe := by simpa [isK] using hk
      unfold Sc.cmd
      rw [this]
      rfl
    · have hk' : isK .fe s = false := by simpa using hk
      have e2 : sureFold ss ns.length (fun i => fenceIn ss i (t + 1)) t = lawSure ss ns.length t := sureFold_congr fun i hi => by
        rw [fenceIn_succ hs (by omega), hk', Bool.or_false]
      rw [e2]
      have e3 : fenceIn ss t (t + 1) = false := by
        rw [fenceIn_succ hs (Nat.le_refl t), hk', Bool.or_false]
        unfold fenceIn
        simp
      unfold sureStep
      rw [hs]
      simp only [e3, Bool.and_false, Bool.false_eq_true, if_false]
      rw [← ih]
      obtain ⟨k, a, b, c⟩ := s
      cases k with
      | st => rfl
      | fl => rfl
      | fe => simp [isK] at hk
end Q

namespace Q
open PySem PySem.Spec PyProof.Rows L2 LamX
theorem cut_to {xs : List V} {t : Nat} : cutV xs none (some (t : Int)) = xs.take t := by
  unfold cutV
  rw [HT.sIx_none, HT.sIx_nat, List.drop_zero, Nat.sub_zero]
  by_cases h : t ≤ xs.length
  · rw [Nat.min_eq_left h]
  · rw [Nat.min_eq_right (by omega), List.take_length, List.take_of_length_le (by omega)]
theorem cut_from {xs : List V} {i t : Nat} : cutV xs (some (i : Int)) (some (t : Int)) = (xs.drop i).take (t - i) := by
  unfold cutV
  rw [HT.sIx_nat, HT.sIx_nat]
  by_cases h : i ≤ xs.length
  · rw [Nat.min_eq_left h]
    by_cases h2 : t ≤ xs.length
    · rw [Nat.min_eq_left h2]
    · rw [Nat.min_eq_right (by omega), List.take_of_length_le (by rw [List.length_drop]; omega), List.take_of_length_le (by rw [List.length_drop]; omega)]
  · have e : min i xs.length = xs.length := Nat.min_eq_right (by omega)
    rw [e, List.drop_of_length_le (Nat.le_refl _), List.drop_of_length_le (show xs.length ≤ i by omega)]
    simp
theorem cut_rest {xs : List V} {i : Nat} : cutV xs (some (i : Int)) none = xs.drop i := by
  unfold cutV
  rw [HT.sIx_none, HT.sIx_nat]
  by_cases h : i ≤ xs.length
  · rw [Nat.min_eq_left h, List.take_of_length_le (by rw [List.length_drop]; omega)]
  · have e : min i xs.length = xs.length := Nat.min_eq_right (by omega)
    rw [e, List.drop_of_length_le (Nat.le_refl _), List.drop_of_length_le (show xs.length ≤ i by omega)]
    simp
def spSizes : Sp := fun vs H Q _ => ∃ (S : Addr) (m : Int), vs = [.ref S, .int m] ∧ HasSrc S H ∧ 1 ≤ m ∧ m ≤ 6 ∧
  ∀ (p : Addr) (ns : List Int) (H' : Hp), HasSrc S H' → Ks S H H' → H' p = some (.lst (ns.map V.int)) → p ≠ S → H p = none → SizesOk ns → (ns.length : Int) ≤ m → Q (.ref p) H'
def spNumber : Sp := fun vs H Q _ => ∃ S : Addr, vs = [.ref S] ∧ HasSrc S H ∧ ∀ (z : Int) (H' : Hp), HasSrc S H' → Ks S H H' → Q (.int z) H'
def spSpecs : Sp := fun vs H Q _ => ∃ (S p : Addr) (ns : List Int) (lo hi : Int), vs = [.ref S, .ref p, .int lo, .int hi] ∧ HasSrc S H ∧ H p = some (.lst (ns.map V.int)) ∧ p ≠ S ∧ SizesOk ns ∧ 0 ≤ lo ∧ lo ≤ hi ∧ hi ≤ 200 ∧
  ∀ (r : Addr) (ss : List Sc) (H' : Hp), HasSrc S H' → Ks S H H' → Specs H' r ss → r ≠ S → H r = none → (∀ s ∈ ss, Good ns s) → lo ≤ (ss.length : Int) → (ss.length : Int) ≤ hi → Q (.ref r) H'
def spCommand (d : Ad) : Sp := fun vs H Q _ => ∃ v s, vs = [v] ∧ SpecAt H v s ∧ ∀ x H', Same H H' → CmdAt d H' (.ref x) s.cmd → Q (.ref x) H'
def spProgram (d : Ad) : Sp := fun vs H Q _ => ∃ (p q : Addr) (ns : List Int) (ss : List Sc), vs = [.ref p, .ref q] ∧ H p = some (.lst (ns.map V.int)) ∧ SizesOk ns ∧ Specs H q ss ∧ (∀ s ∈ ss, Good ns s) ∧ ss.length ≤ 200 ∧
  ∀ x H', Same H H' → ProgAt d H' x ns (cmds ss) → Q (.ref x) H'
def spLMade : Sp := fun vs H Q _ => ∃ (q : Addr) (ss : List Sc) (n t : Nat), vs = [.ref q, .int n, .int t] ∧ Specs H q ss ∧ n ≤ 6 ∧ t ≤ ss.length ∧ ss.length ≤ 200 ∧
  ∀ x H', Same H H' → H' x = some (.tup ((lawMade ss n t).map V.int)) → Q (.ref x) H'
def spLSure : Sp := fun vs H Q _ => ∃ (q : Addr) (ss : List Sc) (n t : Nat), vs = [.ref q, .int n, .int t] ∧ Specs H q ss ∧ n ≤ 6 ∧ t ≤ ss.length ∧ ss.length ≤ 200 ∧ (∀ s ∈ ss, 0 ≤ s.a ∧ s.a < n) ∧
  ∀ x H', Same H H' → H' x = some (.tup ((lawSure ss n t).map V.int)) → Q (.ref x) H'
section
variable {X : Cx} {K : PySem.W.Frag}
/-- within a comprehension's block the written part is named, since the block's context is not in reach -/
theorem ix_tupK (h : X.K = K) : IxR X (rIxT K) := by
  subst h
  exact ix_tup
theorem ix_listK (h : X.K = K) : IxR X (rIxL K) := by
  subst h
  exact ix_list
def rLenK (K : PySem.W.Frag) : List V → Hp → VK → Prop := fun xs H Q => ∃ p ys, xs = [.ref p] ∧ (SqL K H p ys ∨ SqT K H p ys) ∧ Q (.int ys.length) H
theorem call_lenK (h : X.K = K) : CallR X (.builtin "len") (rLenK K) := by
  subst h
  exact call_len_seq
theorem pi_listK {tg e : Expr} {tl : TE} (h : X.K = K) (hl : PE X e tl) : PI X tg e (iList K tl) := by
  subst h
  exact pi_list hl
theorem pi_tupK {tg e : Expr} {tl : TE} (h : X.K = K) (hl : PE X e tl) : PI X tg e (iTup K tl) := by
  subst h
  exact pi_tup hl
end
theorem filter_snoc {α : Type} {l : List α} {i : Nat} {x : α} {p : α → Bool} (h : l[i]? = some x) : (l.take (i + 1)).filter p = (l.take i).filter p ++ (if p x = true then [x] else []) := by
  rw [take_snoc h, List.filter_append]
  congr 1
  by_cases q : p x = true
  · rw [if_pos q]
    simp [q]
  · rw [if_neg q]
    simp [q]
def specD (s : Sc) : PyData := .tuple [.str s.k.str, .int s.a, .int s.b, .int s.c]
theorem dp_spec {K : PySem.W.Frag} {H : Hp} {v : V} {s : Sc} (h : SpecAt H v s) : Dp K H v (specD s) := by
  obtain ⟨r, rfl, h⟩ := h
  exact .tup (SqT.of h) (.cons (.str _) (.cons (.int _) (.cons (.int _) (.cons (.int _) .nil))))
theorem dpAll_specs {K : PySem.W.Frag} {H : Hp} : ∀ {vs : List V} {ss : List Sc}, All2 (SpecAt H) vs ss → DpAll K H vs (ss.map specD)
  | [], [], _ => .nil
  | [], _ :: _, a => by cases a.1
  | _ :: _, [], a => by cases a.1
  | v :: vs, s :: ss, a => .cons (dp_spec (a.2 0 v s rfl rfl)) (dpAll_specs ⟨Nat.succ.inj a.1, fun i x y h1 h2 => a.2 (i + 1) x y h1 h2⟩)
theorem lay_spec (s : Sc) : PyData.canLay0 (specD s) = true := by
  obtain ⟨k, a, b, c⟩ := s
  have e : PyData.canLay0 (specD ⟨k, a, b, c⟩) = (PyData.canLay0 (.str k.str) && true) := rfl
  rw [e]
  cases k <;> decide +kernel
theorem lay_specs : ∀ ss : List Sc, PyData.canLayAll0 (ss.map specD) = true
  | [] => rfl
  | s :: r => by
    show (PyData.canLay0 (specD s) && PyData.canLayAll0 (r.map specD)) = true
    rw [lay_spec, lay_specs r]
    rfl
theorem depth_specs : ∀ ss : List Sc, PyData.depthAll (ss.map specD) ≤ 1
  | [] => Nat.zero_le _
  | s :: r => by
    show max (PyData.depth (specD s)) (PyData.depthAll (r.map specD)) ≤ 1
    have h := depth_specs r
    have e : PyData.depth (specD s) = 1 := by simp [specD, PyData.depth, PyData.depthAll]
    omega
theorem shaped_specs (ss : List Sc) : SeqAt.shaped (.list (ss.map specD)) = true := by
  unfold SeqAt.shaped
  have h1 : PyData.canLay0 (.list (ss.map specD)) = true := lay_specs ss
  have h2 : PyData.depth (.list (ss.map specD)) ≤ 64 := by
    have := depth_specs ss
    simp only [PyData.depth]
    omega
  rw [h1, decide_eq_true h2]
  rfl
theorem eqv_empty (ss : List Sc) : PyData.eqv (.list (ss.map specD)) (.list []) = ss.isEmpty := by
  cases ss with
  | nil => rfl
  | cons s r => rfl
theorem max_if (i j : Int) : (if j > i then j else i) = max i j := by
  rw [Int.max_def]
  split <;> split <;> omega
theorem kd_is (k j : Kd) : decide (V.str k.str = V.str j.str) = decide (k = j) := by cases k <;> cases j <;> decide +kernel
theorem ite_kd {k : Kd} (j : Kd) {A B : Prop} (h1 : k = j → A) (h2 : k ≠ j → B) : if decide (V.str k.str = V.str j.str) = true then A else B := by
  rw [kd_is]
  by_cases h : k = j
  · rw [decide_eq_true h]
    exact iteT (h1 h)
  · rw [decide_eq_false h]
    exact iteF (h2 h)
theorem kd_isnt (k j : Kd) : (!decide (V.str k.str = V.str j.str)) = !decide (k = j) := by rw [kd_is]
theorem sizes_at {ns : List Int} {j : Nat} (h : j < ns.length) : (ns.map V.int)[j]? = some (.int (ns.getD j 0)) := by
  rw [List.getElem?_map, List.getD_eq_getElem?_getD]
  simp [h]
theorem sizes_get {ns : List Int} (h : SizesOk ns) {j : Nat} (hj : j < ns.length) : 1 ≤ ns.getD j 0 ∧ ns.getD j 0 ≤ 4 := by
  rw [List.getD_eq_getElem?_getD]
  simp only [hj, List.getElem?_eq_getElem, Option.getD_some]
  exact h.2 _ (List.getElem_mem hj)
end Q

namespace Q
open PySem PySem.Spec PyProof.Rows L2 LamX
/-- told of a call: the time that an error of the class at d.nt tells, else 'none' -/
def TRef (d : Ad) : (XK → Hp → VK → Prop) → Hp → VK → Prop := fun tl H R => ∀ (E' : XK) (R' : VK),
  (∀ (x : Addr) (t : Int) (H' : Hp), H' x = some (.xd [("time", .int t)]) → R (.int t) H' → E' (.ref d.nt) (some x) H') → (∀ (v : V) (H1 : Hp), R (.str "none") H1 → R' v H1) → tl E' H R'
def spLong (T : List (Addr × Str)) : Sp := fun vs H Q _ => ∃ S : Addr, vs = [.ref S] ∧ HasSrc S H ∧ Tabs T H ∧ ∀ H', Q (.bl true) H'
def spRightT (T : List (Addr × Str)) : Sp := fun vs H Q _ => ∃ S : Addr, vs = [.ref S] ∧ HasSrc S H ∧ Tabs T H ∧ ∀ H', Now T S H H' → Q (.bl true) H'
theorem made_is {ss : List Sc} {ns : List Int} (g : ∀ s ∈ ss, Good ns s) {t : Nat} (h : t ≤ ss.length) : (prun ns.length ((cmds ss).take t)).d = lawMade ss ns.length t := by
  rw [cmds_take]
  exact (made_flushed g t h).1
theorem sure_is2 {ss : List Sc} {ns : List Int} (g : ∀ s ∈ ss, Good ns s) {t : Nat} (h : t ≤ ss.length) : (prun ns.length ((cmds ss).take t)).s = lawSure ss ns.length t := by
  rw [cmds_take]
  exact sure_is g t h
theorem time_ok {cs : List Cmd} {t : Nat} (h : t ≤ cs.length) : timeErr cs (t : Int) = none := if_pos ⟨by omega, by omega⟩
theorem time_bad {cs : List Cmd} {t : Int} (h : t < 0 ∨ (cs.length : Int) < t) : timeErr cs t = some (.time t) := if_neg (by omega)
/-- a program and its specs, as a law's def has them -/
structure Has (d : Ad) (H : Hp) (sz sp pg : Addr) (ns : List Int) (ss : List Sc) : Prop where
  ok : SizesOk ns
  sz : H sz = some (.lst (ns.map V.int))
  sp : Specs H sp ss
  pg : ProgAt d H pg ns (cmds ss)
  good : ∀ s ∈ ss, Good ns s
theorem Has.same {d : Ad} {H H' : Hp} {sz sp pg : Addr} {ns : List Int} {ss : List Sc} (h : Has d H sz sp pg ns ss) (e : Same H H') : Has d H' sz sp pg ns ss := ⟨h.ok, e _ _ h.sz, h.sp.same e, h.pg.ke (Ke.same e), h.good⟩
theorem Has.ks {d : Ad} {S : Addr} {H H' : Hp} {sz sp pg : Addr} {ns : List Int} {ss : List Sc} (h : Has d H sz sp pg ns ss) (hs : HasSrc S H) (e : Ks S H H') (n1 : sz ≠ S) (n2 : sp ≠ S) : Has d H' sz sp pg ns ss :=
  ⟨h.ok, e _ _ h.sz n1, h.sp.ks hs n2 e, h.pg.ke (Ke.ks hs e), h.good⟩
theorem Has.ext {d : Ad} {H H' : Hp} {sz sp pg : Addr} {ns : List Int} {ss : List Sc} (h : Has d H sz sp pg ns ss) (e : ExtN H H') : Has d H' sz sp pg ns ss :=
  ⟨h.ok, e _ _ h.sz (fun _ z => by cases z), h.sp.ext e, h.pg.ke (Ke.ext e), h.good⟩
section
variable {d : Ad} {K : PySem.W.Frag} {H : Hp} {sz sp pg : Addr} {ns : List Int} {ss : List Sc}
theorem Has.n6 (h : Has d H sz sp pg ns ss) : ns.length ≤ 6 := h.ok.1.2
theorem Has.lines (h : Has d H sz sp pg ns ss) : ∀ s ∈ ss, 0 ≤ s.a ∧ s.a < (ns.length : Nat) := fun s hs => (h.good s hs).1
/-- made(program, t), t a time: what the law's search makes -/
theorem Has.made (h : Has d H sz sp pg ns ss) (h200 : ss.length ≤ 200) {t : Nat} (ht : t ≤ ss.length) {R : VK} {E : XK} (k : ∀ q H', Same H H' → H' q = some (.tup ((lawMade ss ns.length t).map V.int)) → R (.ref q) H') : spAt d Pg.d [.ref pg, .int (t : Int)] H R E := by
  refine ⟨pg, ns, cmds ss, t, rfl, h.pg, valid_of h.good, h.n6, by rw [cmds_len]; exact h200, fun e z => ?_, fun _ q H' e hq => k q H' e ?_⟩
  · rw [time_ok (by rw [cmds_len]; exact ht)] at z
    cases z
  · rw [Int.toNat_natCast, made_is h.good ht] at hq
    exact hq
theorem Has.sure (h : Has d H sz sp pg ns ss) (h200 : ss.length ≤ 200) {t : Nat} (ht : t ≤ ss.length) {R : VK} {E : XK} (k : ∀ q H', Same H H' → H' q = some (.tup ((lawSure ss ns.length t).map V.int)) → R (.ref q) H') : spAt d Pg.s [.ref pg, .int (t : Int)] H R E := by
  refine ⟨pg, ns, cmds ss, t, rfl, h.pg, valid_of h.good, h.n6, by rw [cmds_len]; exact h200, fun e z => ?_, fun _ q H' e hq => k q H' e ?_⟩
  · rw [time_ok (by rw [cmds_len]; exact ht)] at z
    cases z
  · rw [Int.toNat_natCast, sure_is2 h.good ht] at hq
    exact hq
/-- .. and of a time that is none -/
theorem Has.bad (h : Has d H sz sp pg ns ss) (h200 : ss.length ≤ 200) {t : Int} (ht : t < 0 ∨ (ss.length : Int) < t) {sel : Pg → List Int} {R : VK} {E : XK} (k : Raised d (.time t) E H) : spAt d sel [.ref pg, .int t] H R E := by
  have hb : timeErr (cmds ss) t = some (.time t) := time_bad (by rw [cmds_len]; exact ht)
  refine ⟨pg, ns, cmds ss, t, rfl, h.pg, valid_of h.good, h.n6, by rw [cmds_len]; exact h200, fun e z => ?_, fun z => ?_⟩
  · rw [hb] at z
    cases z
    exact k
  · rw [hb] at z
    cases z
end
end Q
namespace Q
open PySem PySem.Spec PyProof.Rows L2 LamX
/-- two tuples of numbers in a tuple -/
def pairD (xs ys : List Int) : PyData := .tuple [.tuple (xs.map PyData.int), .tuple (ys.map PyData.int)]
theorem pair_shaped (xs ys : List Int) : SeqAt.shaped (pairD xs ys) = true := by
  unfold SeqAt.shaped pairD
  have h1 : PyData.canLay0 (.tuple [.tuple (xs.map PyData.int), .tuple (ys.map PyData.int)]) = true := by
    simp only [PyData.canLay0, PyData.canLayAll0, lay_ints, Bool.and_true]
  have h2 : PyData.depth (.tuple [.tuple (xs.map PyData.int), .tuple (ys.map PyData.int)]) ≤ 64 := by
    simp [PyData.depth, PyData.depthAll, depth_ints]
  rw [h1, decide_eq_true h2]
  rfl
theorem dp_pair {K : PySem.W.Frag} {H : Hp} {p a b : Addr} {xs ys : List Int} (hp : H p = some (.tup [.ref a, .ref b])) (ha : H a = some (.tup (xs.map V.int))) (hb : H b = some (.tup (ys.map V.int))) : Dp K H (.ref p) (pairD xs ys) :=
  .tup (SqT.of hp) (.cons (.tup (SqT.of ha) (dpAll_ints xs)) (.cons (.tup (SqT.of hb) (dpAll_ints ys)) .nil))
theorem Now.dp {T : List (Addr × Str)} {K : PySem.W.Frag} {H H' : Hp} {v : V} {x : PyData} (e : Same H H') (h : Dp K H v x) : Dp K H' v x := dp_same e h
end Q

namespace Q
open PySem PySem.Spec PyProof.Rows L2 LamX
theorem int_of_mem {ns : List Int} {x : V} (h : x ∈ ns.map V.int) : ∃ n, x = .int n := by
  obtain ⟨n, _, rfl⟩ := List.mem_map.mp h
  exact ⟨n, rfl⟩
/-- the law's own list stays, where a source is new and only the source changes -/
theorem sq_kp {K : PySem.W.Frag} {H1 H3 : Hp} {S a : Addr} {xs : List V} {o : HO} (h0 : H1 S = none) (q : SqL K H1 a xs) (e : Kp S (upd H1 S o) H3) : SqL K H3 a xs := by
  have step : ∀ u, H1 a = some u → (∀ ps, u ≠ .tbl ps) → H3 a = some u := fun u hu nt => by
    have ne : a ≠ S := ne_of_none hu h0
    exact e a u (by rw [upd_ne ne]; exact hu) ne nt
  rcases q with (q | ⟨o', q⟩) | q
  · exact .inl (.inl (step _ q (fun ps z => by cases z)))
  · exact .inl (.inr ⟨o', step _ q (fun ps z => by cases z)⟩)
  · exact .inr q
end Q

namespace Q
open PySem PySem.Spec PyProof.Rows L2 LamX
abbrev topS (i : Nat) : Stmt := PySem.Challenge.pw_lateststore_k05_made_and_sure_stores.main.body.getD i (.Pass ⟨0, 0, 0, 0⟩)
abbrev sSource : Stmt := topS 27
theorem scSource : FnScope ["_law_cell"] ["_law_cell"] (defScope sSource) := ⟨rfl, rfl, rfl, by decide +kernel, rfl, by decide +kernel, by decide +kernel⟩
section
variable {P : Program} {w : World} {K : PySem.W.Frag} {mg : Str → Option Value} {base : Heap}
structure TSource (mg : Str → Option Value) : Prop where
  b_abs : mg "abs" = none
theorem ok_source {f : Addr} {fd : FuncData} (F : Fun K "_law_source" "_law_source" sSource f fd) (T : TSource mg) : FnOk P w K mg base CX0 1 f fd ["_law_cell"] spSource := by
  refine F.ok scSource (fun vs H Q E h => ?_) (fun cdv A outer s H vs Q E hr h => ?_)
  · obtain ⟨n, rfl, _⟩ := h
    rfl
  · obtain ⟨n, rfl, k⟩ := h
    refine ⟨_, (pss_one (ps_ret (pe_lst (pa_cons (pe_callB call_abs (by rfl) T.b_abs (by decide +kernel) (pa_cons (pv 0) pa_nil)) (pa_cons (pe_op op_mod (pv 0) pe_int) (pa_cons pe_int pa_nil)))))), ?_⟩
    refine ⟨_, rfl, _, rfl, _, rfl, _, _, rfl, rfl, (by show (0 : Int) < 2147483629; decide), (by show 3 ≤ sizeLine; decide), fun p hp => ?_⟩
    exact k p _ _ _ hp
end
abbrev sDraw : Stmt := topS 28
theorem scDraw : FnScope ["_law_source_here", "_law_many", "_law_found", "_law_number_here"] ["_law_source_here", "_law_many"] (defScope sDraw) := ⟨rfl, rfl, rfl, by decide +kernel, rfl, by decide +kernel, by decide +kernel⟩
section
variable {P : Program} {w : World} {K : PySem.W.Frag} {mg : Str → Option Value} {base : Heap}
theorem ok_draw {f : Addr} {fd : FuncData} (F : Fun K "_law_draw" "_law_draw" sDraw f fd) : FnOk P w K mg base CX0 1 f fd ["_law_source_here", "_law_many"] spDraw := by
  refine F.ok scDraw (fun vs H Q E h => ?_) (fun cdv A outer s H vs Q E hr h => ?_)
  · obtain ⟨S, m, rfl, _⟩ := h
    rfl
  · obtain ⟨S, m, rfl, ⟨a, b, c, hS⟩, m0, m1, k⟩ := h
    refine ⟨_, (pss_cons (ps_if (pt_cmpR op_ge (pe_ix ix_list (pv 0) pe_int (fun _ _ => rfl)) (pe_op op_pow pe_int pe_int) (nomark _)) (pss_cons (ps_set (i := 2) scDraw.nd rfl (Or.inl rfl) (pe_op op_mod (pe_ix ix_list (pv 0) pe_int (fun _ _ => rfl)) (pv 1)))
    (pss_cons (ps_asg (pe_op op_fdiv (pe_ix ix_list (pv 0) pe_int (fun _ _ => rfl)) (pv 1)) (pg_sub (pv 0) pe_int set_list))
    (pss_one (ps_ret (pv 2))))) pss_nil)
    (pss_cons (ps_asg (pe_op op_add (pe_ix ix_list (pv 0) pe_int (fun _ _ => rfl)) pe_int) (pg_sub (pv 0) pe_int set_list))
    (pss_cons (ps_set (i := 3) scDraw.nd rfl (Or.inl rfl) (pe_op op_mod (pe_op op_mul (pe_op op_add (pe_op op_add (pe_ix ix_list (pv 0) pe_int (fun _ _ => rfl)) (pe_op op_mul pe_int (pe_ix ix_list (pv 0) pe_int (fun _ _ => rfl)))) pe_int) pe_int) pe_int))
    (pss_cons (ps_set (i := 3) scDraw.nd rfl (Or.inl rfl) (pe_op op_mod (pe_op op_mul (pv 3) (pe_op op_add (pe_op op_fdiv (pv 3) pe_int) pe_int)) pe_int))
    (pss_one (ps_ret (pe_op op_mod (pe_op op_mod (pe_op op_add (pe_op op_fdiv (pv 3) pe_int) (pe_op op_mul (pe_op op_mod (pv 3) pe_int) pe_int)) pe_int) (pv 1)))))))), ?_⟩
    refine ⟨_, rfl, S, _, _, _, rfl, rfl, SqL.of hS, at0, _, _, rfl, rfl, ⟨by decide, by decide, by decide⟩, _, _, rfl, rfl, _, rfl, ?_⟩
    refine ite2 (fun _ => ?_) (fun _ => ?_)
    · refine ⟨_, rfl, S, _, _, _, rfl, rfl, SqL.of hS, at0, _, rfl, _, _, rfl, rfl, m0, ?_⟩
      refine ⟨_, rfl, S, _, _, _, rfl, rfl, SqL.of hS, at0, _, rfl, _, _, rfl, rfl, ⟨m0, m1⟩, _, rfl, S, _, _, 0, rfl, rfl, hS, rfl, ?_⟩
      exact ⟨_, rfl, k _ _ (Int.emod_nonneg _ (by omega)) (Int.emod_lt_of_pos _ m0) ⟨_, _, _, upd_same⟩ Ks.upd⟩
    · refine ⟨_, rfl, S, _, _, _, rfl, rfl, SqL.of hS, at2, _, _, rfl, rfl, _, rfl, S, _, _, 2, rfl, rfl, hS, rfl, ?_⟩
      have hS2 : upd H S (src a b (c + 1)) S = some (src a b (c + 1)) := upd_same
      refine ⟨_, rfl, S, _, _, _, rfl, rfl, SqL.of hS2, at1, _, rfl, S, _, _, _, rfl, rfl, SqL.of hS2, at2, _, _, rfl, rfl, .inl ⟨by decide, by decide⟩, _, _, rfl, rfl, _, _, rfl, rfl, _, _, rfl, rfl, .inr ⟨by decide, by decide⟩, _, _, rfl, rfl, (by show (0 : Int) < 2147483647; decide), ?_⟩
      generalize hx : ((b + 7919 * (c + 1) + 1) * 48271) % 2147483647 = x
      have x0 : 0 ≤ x := by rw [← hx]; exact Int.emod_nonneg _ (by decide)
      have x1 : x < 2147483647 := by rw [← hx]; exact Int.emod_lt_of_pos _ (by decide)
      refine ⟨_, rfl, _, rfl, _, _, rfl, rfl, ⟨by decide, by decide⟩, _, _, rfl, rfl, _, _, rfl, rfl, .inl ⟨by omega, by omega⟩, _, _, rfl, rfl, (by show (0 : Int) < 2147483587; decide), ?_⟩
      refine ⟨_, rfl, _, _, rfl, rfl, ⟨by decide, by decide⟩, _, rfl, _, _, rfl, rfl, (by show (0 : Int) < 7919; decide), _, _, rfl, rfl, .inr ⟨by decide, by decide⟩, _, _, rfl, rfl, _, _, rfl, rfl, (by show (0 : Int) < 2147483399; decide), _, rfl, _, _, rfl, rfl, m0, ?_⟩
      exact k _ _ (Int.emod_nonneg _ (by omega)) (Int.emod_lt_of_pos _ m0) ⟨_, _, _, upd_same⟩ Ks.upd
end
abbrev sPick : Stmt := topS 29
theorem scPick : FnScope ["_law_source_here", "_law_items"] ["_law_source_here", "_law_items"] (defScope sPick) := ⟨rfl, rfl, rfl, by decide +kernel, rfl, by decide +kernel, by decide +kernel⟩
section
variable {P : Program} {w : World} {K : PySem.W.Frag} {mg : Str → Option Value} {base : Heap}
structure TPick (mg : Str → Option Value) : Prop where
  b_len : mg "len" = none
theorem ok_pick {f : Addr} {fd : FuncData} (F : Fun K "_law_pick" "_law_pick" sPick f fd) (T : TPick mg) (FD : Cal P w K mg base CX0 "_law_draw" 1 ["_law_source_here", "_law_many"] spDraw) : FnOk P w K mg base CX0 2 f fd ["_law_source_here", "_law_items"] (spPick K) := by
  refine F.ok scPick (fun vs H Q E h => ?_) (fun cdv A outer s H vs Q E hr h => ?_)
  · obtain ⟨S, p, xs, rfl, _⟩ := h
    rfl
  · obtain ⟨S, p, xs, rfl, hS, hp, ne, l0, l1, k⟩ := h
    refine ⟨_, (pss_one (ps_ret (pe_ix ix_list (pv 1) (pe_cal FD (hr.mono (by decide)) (by rfl) pass0 (pa_cons (pv 0) (pa_cons (pe_callB call_len_seq (by rfl) T.b_len (by decide +kernel) (pa_cons (pv 1) pa_nil)) pa_nil))) (fun _ _ => rfl)))), ?_⟩
    refine ⟨_, rfl, _, rfl, _, rfl, p, _, rfl, .inl (SqL.of hp), S, _, rfl, hS, by omega, by omega, fun r H' r0 r1 hS' ks => ?_⟩
    have hp2 : H' p = some (.lst xs) := ks _ _ hp ne
    have hlt : r.toNat < xs.length := by omega
    have er : ((r.toNat : Nat) : Int) = r := Int.toNat_of_nonneg r0
    have hat : atI xs ((r.toNat : Nat) : Int) = some xs[r.toNat] := atI_nat (by simp [hlt])
    exact ⟨p, xs, r, xs[r.toNat], rfl, rfl, SqL.of hp2, er ▸ hat, k _ _ (List.getElem_mem hlt) hS' ks⟩
end
abbrev sBadI : Stmt := inClass (topS 3) 0
theorem scBadI : FnScope ["self", "what", "count"] ["self", "what", "count"] (defScope sBadI) := ⟨rfl, rfl, rfl, by decide +kernel, rfl, by decide +kernel, by decide +kernel⟩
section
variable {P : Program} {w : World} {K : PySem.W.Frag} {mg : Str → Option Value} {base : Heap}
theorem ok_badI {f CB : Addr} {fd : FuncData} (F : Fun K "__init__" "BadCount.__init__" sBadI f fd) (T : OexC K CB) (n1 : PySem.W.findIn K (.ref CB) "what" = some none) (n2 : PySem.W.findIn K (.ref CB) "count" = some none) :
    FnOk P w K mg base CX0 1 f fd ["self", "what", "count"] (spInit2 CB "what" "count") := by
  refine F.ok scBadI (fun vs H Q E h => ?_) (fun cdv A outer s H vs Q E hr h => ?_)
  · obtain ⟨a, v1, v2, rfl, _⟩ := h
    rfl
  · obtain ⟨a, v1, v2, rfl, ha, k⟩ := h
    refine ⟨_, (pss_cons (ps_ost (pv 0) (pv 1))
    (pss_one (ps_ost (pv 0) (pv 2)))), ?_⟩
    refine ⟨_, rfl, _, rfl, a, CB, rfl, T, n1, .inl ⟨ha, fun d hd ne => ?_⟩⟩
    refine ⟨_, rfl, _, rfl, a, CB, rfl, T, n2, .inr ⟨d, [("what", v1)], upd_same, by rw [upd_ne ne, upd_same], by show 1 ≤ 900; decide, ?_⟩⟩
    exact k d hd ne
end
abbrev sChk : Stmt := topS 17
theorem scChk : FnScope ["sizes", "size"] ["sizes"] (defScope sChk) := ⟨rfl, rfl, rfl, by decide +kernel, rfl, by decide +kernel, by decide +kernel⟩
structure TChk (mg : Str → Option Value) : Prop where
  b_len : mg "len" = none
  g_MOST_LINES : ∃ t, mg "MOST_LINES" = some (.int 6 t)
  g_MOST_WORDS : ∃ t, mg "MOST_WORDS" = some (.int 4 t)
section
variable {P : Program} {w : World} {K : PySem.W.Frag} {mg : Str → Option Value} {base : Heap}
theorem ok_chk {f CB : Addr} {fd : FuncData} (F : Fun K "check_sizes" "check_sizes" sChk f fd) (T : TChk mg) (EB : Err P w K mg base "BadCount" CB 1 ["self", "what", "count"] (spInit2 CB "what" "count")) :
    FnOk P w K mg base (L2.CX P w) 3 f fd ["sizes"] (spChkSizes K CB) := by
  obtain ⟨tl, hl⟩ := T.g_MOST_LINES
  obtain ⟨tw, hw⟩ := T.g_MOST_WORDS
  refine F.okX scChk (fun vs H Q E h => ?_) (fun cdv A outer s H vs Q E hr h => ?_)
  · obtain ⟨b, a, ns, rfl, _⟩ := h
    rfl
  · obtain ⟨b, a, ns, rfl, hS, kE, kQ⟩ := h
    refine ⟨_, (pss_cons (ps_if (pt_not (pt_chain op_le op_le pe_int (pe_callB call_len_seq (by rfl) T.b_len (by decide +kernel) (pa_cons (pv 0) pa_nil)) (pe_glob (v := V.int 6) rfl hl ⟨_, rfl⟩))) (pss_one (ps_raise rfl (takes_of rfl rfl rfl rfl) (pmk_err EB (hr.mono (by decide)) (by rfl) (pa_cons pe_str (pa_cons (pe_callB call_len_seq (by rfl) T.b_len (by decide +kernel) (pa_cons (pv 0) pa_nil)) pa_nil))))) pss_nil)
    (pss_one (ps_for (passes_of rfl) rfl (pi_sq b (pv 0)) (pg_name (i := 1) scChk.nd rfl (Or.inl rfl)) (pss_one (ps_if (pt_not (pt_chain op_le op_le pe_int (pv 1) (pe_glob (v := V.int 4) rfl hw ⟨_, rfl⟩))) (pss_one (ps_raise rfl (takes_of rfl rfl rfl rfl) (pmk_err EB (hr.mono (by decide)) (by rfl) (pa_cons pe_str (pa_cons (pv 1) pa_nil))))) pss_nil))))), ?_⟩
    have vl : ((ns.map V.int).length : Int) = (ns.length : Int) := by rw [List.length_map]
    refine st_seq (s_if (ans_not (a_lele val_c (v_len (val_var rfl) hS) val_c)) (fun hb => ?_) (fun hb => ?_))
    · rw [vl] at hb
      have hn : ¬ (1 ≤ (ns.length : Int) ∧ (ns.length : Int) ≤ 6) := nd_t hb
      refine ⟨_, rfl, a, _, rfl, hS.or, by show 2 ≤ 1000; decide, mk2 fun d hd => ?_⟩
      rw [vl]
      exact kE _ _ (if_neg hn) d hd
    · rw [vl] at hb
      have hn : 1 ≤ (ns.length : Int) ∧ (ns.length : Int) ≤ 6 := nd_f hb
      have eb : badSizes ns = (ns.find? fun n => !decide (1 ≤ n ∧ n ≤ 4)).map fun n => (("words" : Str), n) := if_pos hn
      refine sq_for (xs := ns.map V.int) (fun i σ H' => H' = H ∧ (∃ v : Option V, σ = [some (.ref a), v]) ∧ ∀ j m, j < i → ns[j]? = some m → (!decide (1 ≤ m ∧ m ≤ 4)) = false)
        (fun R q => ⟨_, rfl, q⟩) hS ⟨rfl, ⟨none, rfl⟩, fun j m hj => absurd hj (Nat.not_lt_zero j)⟩ (fun i σ H' _ ⟨e, _⟩ => by rw [e]; exact hS) ?_ ?_
      · rintro i x σ H' hi ⟨rfl, ⟨v, rfl⟩, hg⟩
        obtain ⟨n, hn2, rfl⟩ := map_at hi
        refine g_name ?_
        refine s_if (ans_not (a_lele val_c (val_var (v := .int n) (i := 1) rfl) val_c)) (fun hb2 => ?_) (fun hb2 => ?_)
        · refine ⟨_, rfl, by show 2 ≤ 1000; decide, mk2 fun d hd => kE _ _ ?_ d hd⟩
          rw [eb, find_at hn2 hb2 hg]
          rfl
        · refine ⟨rfl, ⟨_, rfl⟩, fun j m hj hm => ?_⟩
          rcases Nat.lt_succ_iff_lt_or_eq.mp hj with h1 | h1
          · exact hg j m h1 hm
          · rw [h1, hn2] at hm
            cases hm
            exact hb2
      · rintro σ H' ⟨rfl, _, hg⟩
        refine kQ ?_
        rw [eb, find_none_take (fun n hn3 => ?_)]
        · rfl
        · obtain ⟨j, hj, e⟩ := List.getElem_of_mem hn3
          exact hg j n (by rw [List.length_map]; exact hj) (by rw [← e]; simp [hj])
end
abbrev sMemI : Stmt := inClass (topS 12) 0
theorem scMemI : FnScope ["self", "sizes"] ["self", "sizes"] (defScope sMemI) := ⟨rfl, rfl, rfl, by decide +kernel, rfl, by decide +kernel, by decide +kernel⟩
structure TMem (K : PySem.W.Frag) (mg : Str → Option Value) (CM : Addr) : Prop where
  b_tuple : mg "tuple" = none
  cl : Cls K CM
  nS : NoAttr K CM "sizes"
section
variable {P : Program} {w : World} {K : PySem.W.Frag} {mg : Str → Option Value} {base : Heap}
theorem ok_memI {f CB CM : Addr} {fd : FuncData} (F : Fun K "__init__" "Memory.__init__" sMemI f fd) (T : TMem K mg CM) (FC : Cal P w K mg base (L2.CX P w) "check_sizes" 3 ["sizes"] (spChkSizes K CB)) :
    FnOk P w K mg base (L2.CX P w) 4 f fd ["self", "sizes"] (spMemInit K CB CM) := by
  refine F.okX scMemI (fun vs H Q E h => ?_) (fun cdv A outer s H vs Q E hr h => ?_)
  · obtain ⟨b, m, dx, a, ns, rfl, _⟩ := h
    rfl
  · obtain ⟨b, m, dx, a, ns, rfl, hm, hS, nam, kE, kQ⟩ := h
    refine ⟨_, (pss_cons (ps_expr (pe_cal FC (hr.mono (by decide)) (by rfl) (passes_call (takes_of rfl rfl rfl rfl) (fun _ _ _ _ h => h)) (pa_cons (pv 1) pa_nil)))
    (pss_one (ps_fld (pv 0) (pe_callTy call_tuple_of (by rfl) T.b_tuple (by decide +kernel) (pa_cons (pv 1) pa_nil)) rfl))), ?_⟩
    refine ⟨_, rfl, b, a, ns, rfl, hS, kE, fun hb => ?_⟩
    obtain ⟨k1, k2⟩ := kQ hb
    cases b with
    | true =>
      refine ⟨_, rfl, a, _, rfl, .inl ⟨hS, fun t ht => ?_⟩⟩
      have nmt : m ≠ t := ne_of_none hm ht
      exact ⟨_, rfl, m, CM, dx, [], rfl, by rw [upd_ne nmt]; exact hm, T.cl, T.nS, by show 0 < 1000; decide, k1 rfl t ht⟩
    | false =>
      refine ⟨_, rfl, a, _, rfl, .inr ⟨hS, ?_⟩⟩
      exact ⟨_, rfl, m, CM, dx, [], rfl, hm, T.cl, T.nS, by show 0 < 1000; decide, k2 rfl⟩
end
abbrev snlI : Stmt := inClass (topS 4) 0
theorem scnlI : FnScope ["self", "line"] ["self", "line"] (defScope snlI) := ⟨rfl, rfl, rfl, by decide +kernel, rfl, by decide +kernel, by decide +kernel⟩
section
variable {P : Program} {w : World} {K : PySem.W.Frag} {mg : Str → Option Value} {base : Heap}
theorem ok_nlI {f CB : Addr} {fd : FuncData} (F : Fun K "__init__" "NoLine.__init__" snlI f fd) (T : OexC K CB) (n1 : PySem.W.findIn K (.ref CB) "line" = some none) :
    FnOk P w K mg base CX0 1 f fd ["self", "line"] (spInit1 CB "line") := by
  refine F.ok scnlI (fun vs H Q E h => ?_) (fun cdv A outer s H vs Q E hr h => ?_)
  · obtain ⟨a, v1, rfl, _⟩ := h
    rfl
  · obtain ⟨a, v1, rfl, ha, k⟩ := h
    refine ⟨_, (pss_one (ps_ost (pv 0) (pv 1))), ?_⟩
    exact ⟨_, rfl, _, rfl, a, CB, rfl, T, n1, .inl ⟨ha, fun d hd ne => k d hd ne⟩⟩
end
abbrev snwI : Stmt := inClass (topS 5) 0
theorem scnwI : FnScope ["self", "word"] ["self", "word"] (defScope snwI) := ⟨rfl, rfl, rfl, by decide +kernel, rfl, by decide +kernel, by decide +kernel⟩
section
variable {P : Program} {w : World} {K : PySem.W.Frag} {mg : Str → Option Value} {base : Heap}
theorem ok_nwI {f CB : Addr} {fd : FuncData} (F : Fun K "__init__" "NoWord.__init__" snwI f fd) (T : OexC K CB) (n1 : PySem.W.findIn K (.ref CB) "word" = some none) :
    FnOk P w K mg base CX0 1 f fd ["self", "word"] (spInit1 CB "word") := by
  refine F.ok scnwI (fun vs H Q E h => ?_) (fun cdv A outer s H vs Q E hr h => ?_)
  · obtain ⟨a, v1, rfl, _⟩ := h
    rfl
  · obtain ⟨a, v1, rfl, ha, k⟩ := h
    refine ⟨_, (pss_one (ps_ost (pv 0) (pv 1))), ?_⟩
    exact ⟨_, rfl, _, rfl, a, CB, rfl, T, n1, .inl ⟨ha, fun d hd ne => k d hd ne⟩⟩
end
abbrev sntI : Stmt := inClass (topS 6) 0
theorem scntI : FnScope ["self", "time"] ["self", "time"] (defScope sntI) := ⟨rfl, rfl, rfl, by decide +kernel, rfl, by decide +kernel, by decide +kernel⟩
section
variable {P : Program} {w : World} {K : PySem.W.Frag} {mg : Str → Option Value} {base : Heap}
theorem ok_ntI {f CB : Addr} {fd : FuncData} (F : Fun K "__init__" "NoTime.__init__" sntI f fd) (T : OexC K CB) (n1 : PySem.W.findIn K (.ref CB) "time" = some none) :
    FnOk P w K mg base CX0 1 f fd ["self", "time"] (spInit1 CB "time") := by
  refine F.ok scntI (fun vs H Q E h => ?_) (fun cdv A outer s H vs Q E hr h => ?_)
  · obtain ⟨a, v1, rfl, _⟩ := h
    rfl
  · obtain ⟨a, v1, rfl, ha, k⟩ := h
    refine ⟨_, (pss_one (ps_ost (pv 0) (pv 1))), ?_⟩
    exact ⟨_, rfl, _, rfl, a, CB, rfl, T, n1, .inl ⟨ha, fun d hd ne => k d hd ne⟩⟩
end
end Q

namespace Q
open PySem PySem.Spec PyProof.Rows L2 LamX
abbrev sStoreI : Stmt := inClass (topS 13) 0
theorem scStoreI : FnScope ["self", "line", "word", "number"] ["self", "line", "word", "number"] (defScope sStoreI) := ⟨rfl, rfl, rfl, by decide +kernel, rfl, by decide +kernel, by decide +kernel⟩
theorem pf_lw : ¬ (("line" : Str) = "word") := by decide +kernel
theorem pf_ln : ¬ (("line" : Str) = "number") := by decide +kernel
theorem pf_wn : ¬ (("word" : Str) = "number") := by decide +kernel
theorem pf_mc : ¬ (("memory" : Str) = "commands") := by decide +kernel
theorem putF_at {f g : Str} {v x : V} {r : List (Str × V)} (h : ¬ g = f) : putF f v ((g, x) :: r) = (g, x) :: putF f v r := if_neg h
section
variable {P : Program} {w : World} {K : PySem.W.Frag} {mg : Str → Option Value} {base : Heap}
theorem ok_storeI {f : Addr} {d : Ad} {fd : FuncData} (F : Fun K "__init__" "Store.__init__" sStoreI f fd) (c : Cls K d.st) (n1 : NoAttr K d.st "line") (n2 : NoAttr K d.st "word") (n3 : NoAttr K d.st "number") :
    FnOk P w K mg base CX0 1 f fd ["self", "line", "word", "number"] (spStoreI d) := by
  refine F.ok scStoreI (fun vs H Q E h => ?_) (fun cdv A outer s H vs Q E hr h => ?_)
  · obtain ⟨x, dx, v1, v2, v3, rfl, _⟩ := h
    rfl
  · obtain ⟨x, dx, v1, v2, v3, rfl, hx, k⟩ := h
    refine ⟨_, (pss_cons (ps_fld (pv 0) (pv 1) rfl)
    (pss_cons (ps_fld (pv 0) (pv 2) rfl)
    (pss_one (ps_fld (pv 0) (pv 3) rfl)))), ?_⟩
    refine ⟨_, rfl, _, rfl, x, d.st, dx, [], rfl, hx, c, n1, by show 0 < 1000; decide, ?_⟩
    refine ⟨_, rfl, _, rfl, x, d.st, dx, [("line", v1)], rfl, upd_same, c, n2, by show 1 < 1000; decide, ?_⟩
    have e1 : putF "word" v2 [(("line" : Str), v1)] = ([("line", v1), ("word", v2)] : List (Str × V)) := putF_at pf_lw
    rw [e1]
    refine ⟨_, rfl, _, rfl, x, d.st, dx, [("line", v1), ("word", v2)], rfl, upd_same, c, n3, by show 2 < 1000; decide, ?_⟩
    have e2 : putF "number" v3 [(("line" : Str), v1), ("word", v2)] = ([("line", v1), ("word", v2), ("number", v3)] : List (Str × V)) := by rw [putF_at pf_ln, putF_at pf_wn] <;> rfl
    rw [e2, upd_upd, upd_upd]
    exact k
end
abbrev sFlushI : Stmt := inClass (topS 14) 0
theorem scFlushI : FnScope ["self", "line"] ["self", "line"] (defScope sFlushI) := ⟨rfl, rfl, rfl, by decide +kernel, rfl, by decide +kernel, by decide +kernel⟩
section
variable {P : Program} {w : World} {K : PySem.W.Frag} {mg : Str → Option Value} {base : Heap}
theorem ok_flushI {f : Addr} {d : Ad} {fd : FuncData} (F : Fun K "__init__" "Flush.__init__" sFlushI f fd) (c : Cls K d.fl) (n1 : NoAttr K d.fl "line") : FnOk P w K mg base CX0 1 f fd ["self", "line"] (spFlushI d) := by
  refine F.ok scFlushI (fun vs H Q E h => ?_) (fun cdv A outer s H vs Q E hr h => ?_)
  · obtain ⟨x, dx, v1, rfl, _⟩ := h
    rfl
  · obtain ⟨x, dx, v1, rfl, hx, k⟩ := h
    refine ⟨_, (pss_one (ps_fld (pv 0) (pv 1) rfl)), ?_⟩
    exact ⟨_, rfl, _, rfl, x, d.fl, dx, [], rfl, hx, c, n1, by show 0 < 1000; decide, k⟩
end
abbrev sLine : Stmt := topS 18
theorem scLine : FnScope ["memory", "line"] ["memory", "line"] (defScope sLine) := ⟨rfl, rfl, rfl, by decide +kernel, rfl, by decide +kernel, by decide +kernel⟩
theorem checks_none {d : Ad} {R : VK} {E : XK} {H : Hp} (h : R .non H) : Checks d none R E H := h
/-- what the module's text is, for programs -/
structure TProg (K : PySem.W.Frag) (mg : Str → Option Value) (d : Ad) : Prop where
  b_len : mg "len" = none
  b_isi : mg "isinstance" = none
  b_tuple : mg "tuple" = none
  b_list : mg "list" = none
  g_most : ∃ t, mg "MOST_COMMANDS" = some (.int 200 t)
  gSt : mg "Store" = some (.ref d.st)
  gFl : mg "Flush" = some (.ref d.fl)
  cM : Cls K d.me
  cP : Cls K d.pr
  nSz : NoAttr K d.me "sizes"
  nMe : NoAttr K d.pr "memory"
  nCo : NoAttr K d.pr "commands"
  oc : ∀ c, OwnC K (d.cls c)
  kS : ∀ c, PySem.W.kitOne K (.ref (d.cls c)) (.ref d.st) = some (match c with | .store _ _ _ => true | _ => false)
  kF : ∀ c, PySem.W.kitOne K (.ref (d.cls c)) (.ref d.fl) = some (match c with | .flush _ => true | _ => false)
  nL : NoAttr K d.st "line"
  nW : NoAttr K d.st "word"
  nN : NoAttr K d.st "number"
  nFl : NoAttr K d.fl "line"
  ne : d.pr ≠ d.fe
section
variable {P : Program} {w : World} {K : PySem.W.Frag} {mg : Str → Option Value} {base : Heap}
theorem ok_line {f : Addr} {d : Ad} {fd : FuncData} (F : Fun K "check_line" "check_line" sLine f fd) (T : TProg K mg d) (EL : Err P w K mg base "NoLine" d.nl 1 ["self", "line"] (spInit1 d.nl "line")) :
    FnOk P w K mg base (L2.CX P w) 3 f fd ["memory", "line"] (spLine d) := by
  refine F.okX scLine (fun vs H Q E h => ?_) (fun cdv A outer s H vs Q E hr h => ?_)
  · obtain ⟨m, ns, l, rfl, _⟩ := h
    rfl
  · obtain ⟨m, ns, l, rfl, ⟨dx, t, hm, ht⟩, k⟩ := h
    refine ⟨_, (pss_one (ps_if (pt_not (pt_chain op_le op_lt pe_int (pv 1) (pe_callB call_len_seq (by rfl) T.b_len (by decide +kernel) (pa_cons (pe_fld (pv 0) rfl) pa_nil)))) (pss_one (ps_raise rfl (takes_of rfl rfl rfl rfl) (pmk_err EL (hr.mono (by decide)) (by rfl) (pa_cons (pv 1) pa_nil)))) pss_nil)), ?_⟩
    have vl : ((ns.map V.int).length : Int) = (ns.length : Int) := by rw [List.length_map]
    have vf : Val (tFld K (tVar 0) "sizes") [some (.ref m), some (.int l)] H (.ref t) := val_fld (val_var rfl) hm T.cM T.nSz rfl
    refine s_if (ans_not (a_lelt val_c (val_var (v := .int l) rfl) (v_len (b := false) vf (Sq.t ht)))) (fun hb => ?_) (fun hb => ?_)
    · rw [vl] at hb
      have hn := nd_t hb
      have e : lineErr ns l = some (.line l) := if_neg hn
      rw [e] at k
      exact ⟨_, rfl, by show 1 ≤ 1000; decide, mk1 k⟩
    · rw [vl] at hb
      have hn := nd_f hb
      have e : lineErr ns l = none := if_pos hn
      rw [e] at k
      exact k
end
abbrev sWord : Stmt := topS 19
theorem scWord : FnScope ["memory", "line", "word"] ["memory", "line", "word"] (defScope sWord) := ⟨rfl, rfl, rfl, by decide +kernel, rfl, by decide +kernel, by decide +kernel⟩
section
variable {P : Program} {w : World} {K : PySem.W.Frag} {mg : Str → Option Value} {base : Heap}
theorem ok_word {f : Addr} {d : Ad} {fd : FuncData} (F : Fun K "check_word" "check_word" sWord f fd) (T : TProg K mg d) (FL : Cal P w K mg base (L2.CX P w) "check_line" 3 ["memory", "line"] (spLine d)) (EW : Err P w K mg base "NoWord" d.nw 1 ["self", "word"] (spInit1 d.nw "word")) :
    FnOk P w K mg base (L2.CX P w) 4 f fd ["memory", "line", "word"] (spWord d) := by
  refine F.okX scWord (fun vs H Q E h => ?_) (fun cdv A outer s H vs Q E hr h => ?_)
  · obtain ⟨m, ns, l, w, rfl, _⟩ := h
    rfl
  · obtain ⟨m, ns, l, wd, rfl, hM, k⟩ := h
    refine ⟨_, (pss_cons (ps_expr (pe_cal FL (hr.mono (by decide)) (by rfl) (passes_call (takes_of rfl rfl rfl rfl) (fun _ _ _ _ h => h)) (pa_cons (pv 0) (pa_cons (pv 1) pa_nil))))
    (pss_one (ps_if (pt_not (pt_chain op_le op_lt pe_int (pv 2) (pe_ix ix_tup (pe_fld (pv 0) rfl) (pv 1) (fun _ _ => rfl)))) (pss_one (ps_raise rfl (takes_of rfl rfl rfl rfl) (pmk_err EW (hr.mono (by decide)) (by rfl) (pa_cons (pv 2) pa_nil)))) pss_nil))), ?_⟩
    obtain ⟨dx, t, hm, ht⟩ := id hM
    refine ⟨_, rfl, _, rfl, m, ns, l, rfl, hM, ?_⟩
    by_cases hl : 0 ≤ l ∧ l < ns.length
    · have e : lineErr ns l = none := if_pos hl
      rw [e]
      have hat : (ns.map V.int)[l.toNat]? = some (.int (ns.getD l.toNat 0)) := by
        rw [List.getElem?_map, List.getD_eq_getElem?_getD]
        have hlt : l.toNat < ns.length := by omega
        simp [hlt]
      have vw : Val (tOp (rIxT K) (tFld K (tVar 0) "sizes") (tVar 1)) [some (.ref m), some (.int l), some (.int wd)] H (.int (ns.getD l.toNat 0)) := by
        intro R q
        refine val_fld (val_var rfl) hm T.cM T.nSz rfl _ ?_
        refine ⟨_, rfl, t, _, l, _, rfl, rfl, SqT.of ht, ?_, q⟩
        have e2 : ((l.toNat : Nat) : Int) = l := Int.toNat_of_nonneg hl.1
        have q2 := atI_nat hat
        rw [e2] at q2
        exact q2
      refine checks_none ?_
      dsimp only
      refine s_if (ans_not (a_lelt val_c (val_var (v := .int wd) (i := 2) rfl) vw)) (fun hb => ?_) (fun hb => ?_)
      · have e2 : wordErr ns l wd = some (.word wd) := by
          unfold wordErr
          rw [if_pos hl, if_neg (nd_t hb)]
        rw [e2] at k
        exact ⟨_, rfl, by show 1 ≤ 1000; decide, mk1 k⟩
      · have e2 : wordErr ns l wd = none := by
          unfold wordErr
          rw [if_pos hl, if_pos (nd_f hb)]
        rw [e2] at k
        exact k
    · have e : lineErr ns l = some (.line l) := if_neg hl
      have e2 : wordErr ns l wd = some (.line l) := if_neg hl
      rw [e]
      rw [e2] at k
      exact k
end
abbrev sCmd : Stmt := topS 20
theorem scCmd : FnScope ["memory", "command"] ["memory", "command"] (defScope sCmd) := ⟨rfl, rfl, rfl, by decide +kernel, rfl, by decide +kernel, by decide +kernel⟩
theorem a_val {te : TE} {σ : L2.St} {H : Hp} {b : Bool} (h : Val te σ H (.bl b)) : Ans (tB te) σ H b := ans_val h
section
variable {P : Program} {w : World} {K : PySem.W.Frag} {mg : Str → Option Value} {base : Heap}
theorem ok_cmd {f : Addr} {d : Ad} {fd : FuncData} (F : Fun K "check_command" "check_command" sCmd f fd) (T : TProg K mg d) (FL : Cal P w K mg base (L2.CX P w) "check_line" 3 ["memory", "line"] (spLine d))
    (FW : Cal P w K mg base (L2.CX P w) "check_word" 4 ["memory", "line", "word"] (spWord d)) : FnOk P w K mg base (L2.CX P w) 5 f fd ["memory", "command"] (spCmd d) := by
  refine F.okX scCmd (fun vs H Q E h => ?_) (fun cdv A outer s H vs Q E hr h => ?_)
  · obtain ⟨m, ns, v, c, rfl, _⟩ := h
    rfl
  · obtain ⟨m, ns, v, c, rfl, hM, ⟨a, dx, rfl, ha⟩, k⟩ := h
    refine ⟨_, (pss_one (ps_if (pt_val (pe_callB call_isi (by rfl) T.b_isi (by decide +kernel) (pa_cons (pv 1) (pa_cons (pe_glob (v := V.ref d.st) rfl T.gSt rfl) pa_nil)))) (pss_one (ps_expr (pe_cal FW (hr.mono (by decide)) (by rfl) (passes_call (takes_of rfl rfl rfl rfl) (fun _ _ _ _ h => h)) (pa_cons (pv 0) (pa_cons (pe_fld (pv 1) rfl) (pa_cons (pe_fld (pv 1) rfl) pa_nil)))))) (pss_one (ps_if (pt_val (pe_callB call_isi (by rfl) T.b_isi (by decide +kernel) (pa_cons (pv 1) (pa_cons (pe_glob (v := V.ref d.fl) rfl T.gFl rfl) pa_nil)))) (pss_one (ps_expr (pe_cal FL (hr.mono (by decide)) (by rfl) (passes_call (takes_of rfl rfl rfl rfl) (fun _ _ _ _ h => h)) (pa_cons (pv 0) (pa_cons (pe_fld (pv 1) rfl) pa_nil))))) pss_nil)))), ?_⟩
    show tIfS _ _ _ _ [some (.ref m), some (.ref a)] H
    refine s_if (σ := [some (.ref m), some (.ref a)]) (a_val (v_isi (σ := [some (.ref m), some (.ref a)]) (val_var (i := 1) rfl) val_c (T.oc c) ha (T.kS c))) (fun hb => ?_) (fun hb => ?_)
    · cases c with
      | store l wd n =>
        refine ⟨_, rfl, _, rfl, a, d.st, dx, _, .int l, rfl, ha, (T.oc (.store l wd n)).cl, T.nL, rfl, _, rfl, a, d.st, dx, _, .int wd, rfl, ha, (T.oc (.store l wd n)).cl, T.nW, rfl, m, ns, l, wd, rfl, hM, ?_⟩
        exact k
      | flush l => cases hb
      | fence => cases hb
    · refine s_if (σ := [some (.ref m), some (.ref a)]) (a_val (v_isi (σ := [some (.ref m), some (.ref a)]) (val_var (i := 1) rfl) val_c (T.oc c) ha (T.kF c))) (fun hb2 => ?_) (fun hb2 => ?_)
      · cases c with
        | store l wd n => cases hb2
        | flush l =>
          refine ⟨_, rfl, _, rfl, a, d.fl, dx, _, .int l, rfl, ha, (T.oc (.flush l)).cl, T.nFl, rfl, m, ns, l, rfl, hM, ?_⟩
          exact k
        | fence => cases hb2
      · cases c with
        | store l wd n => cases hb
        | flush l => cases hb2
        | fence => exact k
end
abbrev sCmds : Stmt := topS 21
theorem scCmds : FnScope ["memory", "commands", "command"] ["memory", "commands"] (defScope sCmds) := ⟨rfl, rfl, rfl, by decide +kernel, rfl, by decide +kernel, by decide +kernel⟩
theorem Checks.mono {d : Ad} {o : Option PErr} {R R' : VK} {E : XK} {H : Hp} (h : Checks d o R E H) (k : o = none → R .non H → R' .non H) : Checks d o R' E H := by
  cases o with
  | none => exact k rfl h
  | some e => exact h
section
variable {P : Program} {w : World} {K : PySem.W.Frag} {mg : Str → Option Value} {base : Heap}
theorem ok_cmds {f : Addr} {d : Ad} {fd : FuncData} (F : Fun K "check_commands" "check_commands" sCmds f fd) (T : TProg K mg d) (EB : Err P w K mg base "BadCount" d.bc 1 ["self", "what", "count"] (spInit2 d.bc "what" "count"))
    (FC : Cal P w K mg base (L2.CX P w) "check_command" 5 ["memory", "command"] (spCmd d)) : FnOk P w K mg base (L2.CX P w) 6 f fd ["memory", "commands"] (spCmds d K) := by
  obtain ⟨tm, hmost⟩ := T.g_most
  refine F.okX scCmds (fun vs H Q E h => ?_) (fun cdv A outer s H vs Q E hr h => ?_)
  · obtain ⟨b, m, ns, a, xs, cs, rfl, _⟩ := h
    rfl
  · obtain ⟨b, m, ns, a, xs, cs, rfl, hM, hS, hA, k⟩ := h
    refine ⟨_, (pss_cons (ps_if (pt_cmpR op_gt (pe_callB call_len_seq (by rfl) T.b_len (by decide +kernel) (pa_cons (pv 1) pa_nil)) (pe_glob (v := V.int 200) rfl hmost ⟨_, rfl⟩) (nomark _)) (pss_one (ps_raise rfl (takes_of rfl rfl rfl rfl) (pmk_err EB (hr.mono (by decide)) (by rfl) (pa_cons pe_str (pa_cons (pe_callB call_len_seq (by rfl) T.b_len (by decide +kernel) (pa_cons (pv 1) pa_nil)) pa_nil))))) pss_nil)
    (pss_one (ps_for (passes_of rfl) rfl (pi_sq b (pv 1)) (pg_name (i := 2) scCmds.nd rfl (Or.inl rfl)) (pss_one (ps_expr (pe_cal FC (hr.mono (by decide)) (by rfl) (passes_call (takes_of rfl rfl rfl rfl) (fun _ _ _ _ h => h)) (pa_cons (pv 0) (pa_cons (pv 2) pa_nil)))))))), ?_⟩
    have hl : (xs.length : Int) = cs.length := by rw [hA.1]
    have vt : Ans (tTest (tOp (rI0 fun i j => .bl (decide (j < i))) (tCB (fun xs H Q => ∃ p ys, xs = [.ref p] ∧ (SqL K H p ys ∨ SqT K H p ys) ∧ Q (.int ys.length) H) (tCons (tVar 1) tNil)) (tC (.int 200)))) [some (.ref m), some (.ref a), none] H (decide ((200 : Int) < xs.length)) := by
      intro R q
      exact ⟨_, rfl, a, xs, rfl, hS.or, _, _, rfl, rfl, _, rfl, q⟩
    refine st_seq (s_if vt (fun hb => ?_) (fun hb => ?_))
    · have hn : 200 < cs.length := by
        have := of_decide_eq_true hb
        omega
      have e : progErr ns cs = some (.count "commands" cs.length) := if_pos hn
      rw [e] at k
      refine ⟨_, rfl, a, _, rfl, hS.or, by show 2 ≤ 1000; decide, mk2 ?_⟩
      rw [hl]
      exact k
    · have hn : ¬ 200 < cs.length := by
        have := of_decide_eq_false hb
        omega
      have e : progErr ns cs = cs.findSome? (cmdErr ns) := if_neg hn
      rw [e] at k
      refine sq_for (xs := xs) (fun i σ H' => H' = H ∧ (∃ v : Option V, σ = [some (.ref m), some (.ref a), v]) ∧ ∀ j c, j < i → cs[j]? = some c → cmdErr ns c = none)
        (fun R q => ⟨_, rfl, q⟩) hS ⟨rfl, ⟨none, rfl⟩, fun j c hj => absurd hj (Nat.not_lt_zero j)⟩ (fun i σ H' _ ⟨e, _⟩ => by rw [e]; exact hS) ?_ ?_
      · rintro i x σ H' hi ⟨rfl, ⟨v, rfl⟩, hg⟩
        obtain ⟨c, hc, hx⟩ := hA.get hi
        refine g_name ?_
        refine ⟨_, rfl, _, rfl, m, ns, x, c, rfl, hM, hx, ?_⟩
        cases ec : cmdErr ns c with
        | none =>
          refine ⟨rfl, ⟨_, rfl⟩, fun j c2 hj hj2 => ?_⟩
          rcases Nat.lt_succ_iff_lt_or_eq.mp hj with h1 | h1
          · exact hg j c2 h1 hj2
          · rw [h1, hc] at hj2
            cases hj2
            exact ec
        | some er =>
          have e2 : cs.findSome? (cmdErr ns) = some er := findSome_at hc ec hg
          rw [e2] at k
          exact k
      · rintro σ H' ⟨rfl, _, hg⟩
        have e2 : cs.findSome? (cmdErr ns) = none := by
          refine List.findSome?_eq_none_iff.mpr fun c hc => ?_
          obtain ⟨j, hj, e⟩ := List.getElem_of_mem hc
          exact hg j c (by rw [hA.1]; exact hj) (by rw [← e]; simp [hj])
        rw [e2] at k
        exact k
end
abbrev sProgI : Stmt := inClass (topS 16) 0
theorem scProgI : FnScope ["self", "memory", "commands"] ["self", "memory", "commands"] (defScope sProgI) := ⟨rfl, rfl, rfl, by decide +kernel, rfl, by decide +kernel, by decide +kernel⟩
section
variable {P : Program} {w : World} {K : PySem.W.Frag} {mg : Str → Option Value} {base : Heap}
theorem ok_progI {f : Addr} {d : Ad} {fd : FuncData} (F : Fun K "__init__" "Program.__init__" sProgI f fd) (T : TProg K mg d) (FC : Cal P w K mg base (L2.CX P w) "check_commands" 6 ["memory", "commands"] (spCmds d K)) :
    FnOk P w K mg base (L2.CX P w) 7 f fd ["self", "memory", "commands"] (spProgI d K) := by
  refine F.okX scProgI (fun vs H Q E h => ?_) (fun cdv A outer s H vs Q E hr h => ?_)
  · obtain ⟨b, p, dx, m, ns, a, xs, cs, rfl, _⟩ := h
    rfl
  · obtain ⟨b, p, dx, m, ns, a, xs, cs, rfl, hp, hM, ha, hA, kE, kQ⟩ := h
    refine ⟨_, (pss_cons (ps_expr (pe_cal FC (hr.mono (by decide)) (by rfl) (passes_call (takes_of rfl rfl rfl rfl) (fun _ _ _ _ h => h)) (pa_cons (pv 1) (pa_cons (pv 2) pa_nil))))
    (pss_cons (ps_fld (pv 0) (pv 1) rfl)
    (pss_one (ps_fld (pv 0) (pe_callTy call_tuple_of (by rfl) T.b_tuple (by decide +kernel) (pa_cons (pv 2) pa_nil)) rfl)))), ?_⟩
    refine ⟨_, rfl, _, rfl, b, m, ns, a, xs, cs, rfl, hM, sq_hoOf ha, hA, ?_⟩
    cases e : progErr ns cs with
    | some er => exact kE er e
    | none =>
      have k := kQ e
      refine ⟨_, rfl, _, rfl, p, d.pr, dx, [], rfl, hp, T.cP, T.nMe, by show 0 < 1000; decide, ?_⟩
      have nap : a ≠ p := ne_of ha hp (by cases b <;> (intro z; cases z))
      obtain ⟨dm, tm, hm1, hm2⟩ := id hM
      have nmp : m ≠ p := fun z => by
        rw [z, hp] at hm1
        injection Option.some.inj hm1 with _ _ q
        cases q
      have ntp : tm ≠ p := ne_of hm2 hp (by intro z; cases z)
      have core : ∀ (t : Addr) (H2 : Hp), Ks p H H2 → H2 t = some (.tup xs) → t ≠ p → H2 p = some (.ins d.pr dx [("memory", .ref m)]) → Q .non (upd H2 p (.ins d.pr dx [("memory", .ref m), ("commands", .ref t)])) := by
        intro t H2 ks ht ntp2 hp2
        have ks2 : Ks p H (upd H2 p (.ins d.pr dx [("memory", .ref m), ("commands", .ref t)])) := fun b o hb n => by
          rw [upd_ne n]
          exact ks b o hb n
        refine k _ ks2 ⟨dx, m, t, xs, upd_same, ⟨dm, tm, ks2 _ _ hm1 nmp, ks2 _ _ hm2 ntp⟩, by rw [upd_ne ntp2]; exact ht, hA.mono fun v c q => ?_⟩
        obtain ⟨y, dy, rfl, hy⟩ := q
        refine ⟨y, dy, rfl, ks2 _ _ hy (fun z => ?_)⟩
        rw [z, hp] at hy
        injection Option.some.inj hy with q1 _ q3
        cases c with
        | store l wd n => cases q3
        | flush l => cases q3
        | fence => exact T.ne q1
      have e1 : putF "memory" (.ref m) [] = [(("memory" : Str), V.ref m)] := rfl
      have e2 : ∀ t : V, putF "commands" t [(("memory" : Str), V.ref m)] = ([("memory", V.ref m), ("commands", t)] : List (Str × V)) := fun t => putF_at pf_mc
      rw [e1]
      have ks1 : Ks p H (upd H p (.ins d.pr dx [("memory", .ref m)])) := fun b o hb n => by
        rw [upd_ne n]
        exact hb
      cases b with
      | true =>
        refine ⟨_, rfl, a, xs, rfl, .inl ⟨SqL.of (ks1 _ _ ha nap), fun t ht => ?_⟩⟩
        have npt : p ≠ t := ne_of_none upd_same ht
        refine ⟨_, rfl, p, d.pr, dx, [("memory", .ref m)], rfl, by rw [upd_ne npt, upd_same], T.cP, T.nCo, by show 1 < 1000; decide, ?_⟩
        rw [e2]
        exact core t _ (ks1.trans (Ks.of (Same.new ht))) upd_same (Ne.symm npt) (by rw [upd_ne npt, upd_same])
      | false =>
        refine ⟨_, rfl, a, xs, rfl, .inr ⟨SqT.of (ks1 _ _ ha nap), ?_⟩⟩
        refine ⟨_, rfl, p, d.pr, dx, [("memory", .ref m)], rfl, upd_same, T.cP, T.nCo, by show 1 < 1000; decide, ?_⟩
        rw [e2]
        exact core a _ ks1 (ks1 _ _ ha nap) nap upd_same
end
end Q

namespace Q
open PySem PySem.Spec PyProof.Rows L2 LamX
abbrev sMemE : Stmt := inClass (topS 12) 1
theorem scMemE : FnScope ["self", "other"] ["self", "other"] (defScope sMemE) := ⟨rfl, rfl, rfl, by decide +kernel, rfl, by decide +kernel, by decide +kernel⟩
section
variable {P : Program} {w : World} {K : PySem.W.Frag} {mg : Str → Option Value} {base : Heap}
theorem ok_memE {f : Addr} {d : Ad} {fd : FuncData} (F : Fun K "__eq__" "Memory.__eq__" sMemE f fd) (T : TProg K mg d) (gM : mg "Memory" = some (.ref d.me)) (oM : OwnC K d.me) : FnOk P w K mg base CX0 1 f fd ["self", "other"] (spMemEq d) := by
  refine F.ok scMemE (fun vs H Q E h => ?_) (fun cdv A outer s H vs Q E hr h => ?_)
  · obtain ⟨a, b, ns, ms, rfl, _⟩ := h
    rfl
  · obtain ⟨a, b, ns, ms, rfl, ⟨dx, t, ha, ht⟩, ⟨dy, u, hb, hu⟩, k⟩ := h
    refine ⟨_, (pss_one (ps_ret (pe_and (pe_callB call_isi (by rfl) T.b_isi (by decide +kernel) (pa_cons (pv 1) (pa_cons (pe_glob (v := V.ref d.me) rfl gM rfl) pa_nil))) (pe_one (pe_cmpR (op_eqD hr.units) (pe_fld (pv 0) rfl) (pe_fld (pv 1) rfl) (nomark _)))))), ?_⟩
    refine v_isi (σ := [some (.ref a), some (.ref b)]) (val_var (i := 1) rfl) val_c oM hb kit_self _ ?_
    refine ⟨true, rfl, ?_⟩
    refine iteT ?_
    refine ⟨_, rfl, a, d.me, dx, _, _, rfl, ha, T.cM, T.nSz, rfl, _, rfl, b, d.me, dy, _, _, rfl, hb, T.cM, T.nSz, rfl, ?_⟩
    refine ⟨.tuple (ns.map PyData.int), .tuple (ms.map PyData.int), .tup (SqT.of ht) (dpAll_ints ns), .tup (SqT.of hu) (dpAll_ints ms), shaped_tup ns, shaped_tup ms, ?_⟩
    rw [eqv_tup]
    exact k
end
abbrev sProgA : Stmt := inClass (topS 16) 2
theorem scProgA : FnScope ["self", "other"] ["self", "other"] (defScope sProgA) := ⟨rfl, rfl, rfl, by decide +kernel, rfl, by decide +kernel, by decide +kernel⟩
section
variable {P : Program} {w : World} {K : PySem.W.Frag} {mg : Str → Option Value} {base : Heap}
theorem ok_progA {f : Addr} {d : Ad} {fd : FuncData} (F : Fun K "__add__" "Program.__add__" sProgA f fd) (T : TProg K mg d) (DM : Dun P w K mg base CX0 d.me "__eq__" 1 ["self", "other"] (spMemEq d))
    (hNe : PySem.W.findIn K (.ref d.me) "__ne__" = some (some (.builtin "object.__ne__"))) (hTop : PySem.W.mroIn K d.me (.type "object") = some true) (FP : Mak P w K mg base (L2.CX P w) "Program" d.pr 7 ["self", "memory", "commands"] (spProgI d K)) :
    FnOk P w K mg base (L2.CX P w) 9 f fd ["self", "other"] (spAdd d) := by
  refine F.okX scProgA (fun vs H Q E h => ?_) (fun cdv A outer s H vs Q E hr h => ?_)
  · obtain ⟨p, q, ns, cs, es, rfl, _⟩ := h
    rfl
  · obtain ⟨p, q, ns, cs, es, rfl, ⟨dx, m, t, xs, hp, hm, ht, hx⟩, ⟨dy, n, u, ys, hq, hn, hu, hy⟩, hv, hsz, k⟩ := h
    refine ⟨_, (pss_cons (ps_if (pt_cmpR (op_neO DM hNe hTop (hr.mono (by decide)) pass0) (pe_fld (pv 0) rfl) (pe_fld (pv 1) rfl) (nomark _)) (pss_one ps_never) pss_nil)
    (pss_one (ps_ret (pe_mak FP hr (by rfl) (passes_call (takes_of rfl rfl rfl rfl) (fun _ _ _ _ h => h)) (pa_cons (pe_fld (pv 0) rfl) (pa_cons (pe_op op_catA (pe_fld (pv 0) rfl) (pe_fld (pv 1) rfl)) pa_nil)))))), ?_⟩
    obtain ⟨dm, tm, hm1, hm2⟩ := id hm
    obtain ⟨dn, tn, hn1, hn2⟩ := id hn
    refine ⟨_, rfl, p, d.pr, dx, _, _, rfl, hp, T.cP, T.nMe, rfl, _, rfl, q, d.pr, dy, _, _, rfl, hq, T.cP, T.nMe, rfl, ?_⟩
    refine ⟨m, n, dm, dn, _, _, rfl, rfl, hm1, hn1, m, n, ns, ns, rfl, hm, hn, decide (ns = ns), rfl, _, rfl, ?_⟩
    rw [decide_eq_true rfl]
    refine iteF ?_
    refine ⟨_, rfl, p, d.pr, dx, _, _, rfl, hp, T.cP, T.nMe, rfl, _, rfl, p, d.pr, dx, _, _, rfl, hp, T.cP, T.nCo, rfl, _, rfl, q, d.pr, dy, _, _, rfl, hq, T.cP, T.nCo, rfl, ?_⟩
    have fin : ∀ (c : Addr) (H1 : Hp), Same H H1 → H1 c = some (.tup (xs ++ ys)) → ∀ x dz, H1 x = none → H1 dz = none → dz ≠ x →
        spProgI d K [.ref x, .ref m, .ref c] (upd (upd H1 dz (.own x)) x (.ins d.pr dz [])) (fun v H2 => v = .non ∧ Q (.ref x) H2) E := by
      intro c H1 e hc x dz nx ndz ne
      have e1 : Same H1 (upd (upd H1 dz (.own x)) x (.ins d.pr dz [])) := Same.mut (Same.new ndz) nx
      refine ⟨false, x, dz, m, ns, c, xs ++ ys, cs ++ es, rfl, upd_same, hm.ke (Ke.same (e.trans e1)), e1 _ _ hc, (hx.app hy).mono fun v c q => q.ke (Ke.same (e.trans e1)), fun er z => ?_, fun _ H2 ks hP => ⟨rfl, k x H2 (fun b o hb => ?_) hP⟩⟩
      · rw [hv] at z
        cases z
      · exact ks _ _ ((e.trans e1) _ _ hb) (ne_of_none (e _ _ hb) nx)
    have szs : xs.length + ys.length ≤ sizeLine := by
      rw [hx.1, hy.1]
      exact Nat.le_trans hsz (by decide)
    refine ⟨t, u, xs, ys, rfl, rfl, SqT.of ht, SqT.of hu, szs, fun z => ?_, fun z1 z2 => ?_, fun z1 z2 c hc => ?_⟩
    · refine fin u H (Same.refl H) ?_
      rw [z]
      exact hu
    · refine fin t H (Same.refl H) ?_
      rw [z2, List.append_nil]
      exact ht
    · exact fin c _ (Same.new hc) upd_same
end
abbrev sPrg : Stmt := topS 23
theorem scPrg : FnScope ["program", "done", "flushed", "safe", "rows", "command"] ["program"] (defScope sPrg) := ⟨rfl, rfl, rfl, by decide +kernel, rfl, by decide +kernel, by decide +kernel⟩
/-- between two commands: what done, flushed, safe and rows hold -/
def pInv (d : Ad) (p : Addr) (ns : List Int) (cs : List Cmd) (H0 : Hp) (x : Pg) (k : Nat) : L2.St → Hp → Prop := fun σ H => ∃ (dn fl sf rw : Addr) (vs : List V), (∃ v5 : Option V, σ = [some (.ref p), some (.ref dn), some (.ref fl), some (.ref sf), some (.ref rw), v5]) ∧
  H dn = some (.lst (x.d.map V.int)) ∧ H fl = some (.lst (x.f.map V.int)) ∧ H sf = some (.lst (x.s.map V.int)) ∧ H rw = some (.lst vs) ∧ All2 (RowAt H) vs (rowsOf ns.length cs k) ∧
  (dn ≠ fl ∧ dn ≠ sf ∧ dn ≠ rw ∧ fl ≠ sf ∧ fl ≠ rw ∧ sf ≠ rw) ∧ (H0 dn = none ∧ H0 fl = none ∧ H0 rw = none) ∧ Same H0 H
theorem rows_len {n : Nat} {cs : List Cmd} {k : Nat} : (rowsOf n cs k).length = k := by
  unfold rowsOf
  rw [List.length_map, List.length_range]
section
variable {P : Program} {w : World} {K : PySem.W.Frag} {mg : Str → Option Value} {base : Heap}
theorem ok_prg {f : Addr} {d : Ad} {fd : FuncData} (F : Fun K "progress" "progress" sPrg f fd) (T : TProg K mg d) : FnOk P w K mg base CX0 1 f fd ["program"] (spProgress d) := by
  refine F.ok scPrg (fun vs H Q E h => ?_) (fun cdv A outer s H0 vs Q E hr h => ?_)
  · obtain ⟨p, ns, cs, rfl, _⟩ := h
    rfl
  · obtain ⟨p, ns, cs, rfl, hP, hv, hn6, hc200, k⟩ := h
    obtain ⟨dx, m, t, xs, hp, ⟨dm, tm, hm1, hm2⟩, ht, hx⟩ := id hP
    refine ⟨_, (Evl.pss_cut (ps_set (i := 1) scPrg.nd rfl (Or.inl rfl) (pe_op op_rep (pe_lst (pa_cons pe_int pa_nil)) (pe_callB call_len_seq (by rfl) T.b_len (by decide +kernel) (pa_cons (pe_fld (pe_fld (pv 0) rfl) rfl) pa_nil))))
    (Evl.pss_cut (ps_set (i := 2) scPrg.nd rfl (Or.inl rfl) (pe_callTy call_list_of (by rfl) T.b_list (by decide +kernel) (pa_cons (pv 1) pa_nil)))
    (Evl.pss_cut (ps_set (i := 3) scPrg.nd rfl (Or.inl rfl) (pe_callTy call_list_of (by rfl) T.b_list (by decide +kernel) (pa_cons (pv 1) pa_nil)))
    (Evl.pss_cut (ps_set (i := 4) scPrg.nd rfl (Or.inl rfl) (pe_lst (pa_cons (pe_tup (pa_cons (pe_callTy call_tuple_of (by rfl) T.b_tuple (by decide +kernel) (pa_cons (pv 1) pa_nil)) (pa_cons (pe_callTy call_tuple_of (by rfl) T.b_tuple (by decide +kernel) (pa_cons (pv 3) pa_nil)) pa_nil))) pa_nil)))
    (Evl.pss_cut (ps_for PassesOwn.never rfl (pi_tup (pe_fld (pv 0) rfl)) (pg_name (i := 5) scPrg.nd rfl (Or.inl rfl)) (Evl.pss_cut (ps_if (pt_val (pe_callB call_isi (by rfl) T.b_isi (by decide +kernel) (pa_cons (pv 5) (pa_cons (pe_glob (v := V.ref d.st) rfl T.gSt rfl) pa_nil)))) (pss_one (ps_augS (pv 1) (pe_fld (pv 5) rfl) get_list pe_int ip_add set_list)) (pss_one (ps_if (pt_val (pe_callB call_isi (by rfl) T.b_isi (by decide +kernel) (pa_cons (pv 5) (pa_cons (pe_glob (v := V.ref d.fl) rfl T.gFl rfl) pa_nil)))) (pss_one (ps_asg (pe_ix ix_list (pv 1) (pe_fld (pv 5) rfl) (fun _ _ => rfl)) (pg_sub (pv 2) (pe_fld (pv 5) rfl) set_list))) (pss_one (ps_set (i := 3) scPrg.nd rfl (Or.inl rfl) (pe_callTy call_list_of (by rfl) T.b_list (by decide +kernel) (pa_cons (pv 2) pa_nil)))))))
    (pss_one (ps_expr (pe_bm PySem.F.plainAttrs_list PySem.F.slot_list_append PySem.F.type_list_append mt_append (pv 4) (pa_cons (pe_tup (pa_cons (pe_callTy call_tuple_of (by rfl) T.b_tuple (by decide +kernel) (pa_cons (pv 1) pa_nil)) (pa_cons (pe_callTy call_tuple_of (by rfl) T.b_tuple (by decide +kernel) (pa_cons (pv 3) pa_nil)) pa_nil))) pa_nil))))))
    (pss_one (ps_ret (pv 4)))))))), ?_⟩
    -- done
    refine ⟨fun σ H => ∃ dn, σ = [some (.ref p), some (.ref dn), none, none, none, none] ∧ H dn = some (.lst ((pinit ns.length).d.map V.int)) ∧ H0 dn = none ∧ Same H0 H, ?_, ?_⟩
    · refine ⟨by show 1 ≤ sizeLine; decide, fun l hl => ?_⟩
      have e1 := Same.new (H := H0) (o := .lst [V.int 0]) hl
      refine ⟨_, rfl, p, d.pr, dx, _, _, rfl, e1 _ _ hp, T.cP, T.nMe, rfl, m, d.me, dm, _, _, rfl, e1 _ _ hm1, T.cM, T.nSz, rfl, tm, _, rfl, .inr (SqT.of (e1 _ _ hm2)), ?_⟩
      refine ⟨l, _, _, rfl, rfl, upd_same, by omega, by rw [List.length_map]; omega, ?_, fun dn hdn => g_name ⟨dn, rfl, ?_, Same.free e1 hdn, e1.trans (Same.new hdn)⟩⟩
      · rw [List.length_map]
        exact Nat.le_of_lt (small1000 (by simp; omega))
      · rw [List.length_map]
        have e : (List.replicate ((ns.length : Int)).toNat [V.int 0]).flatten = (pinit ns.length).d.map V.int := by
          simp [pinit]
        rw [← e]
        exact upd_same
    rintro σ H ⟨dn, rfl, hdn, h0dn, sm⟩
    -- flushed
    refine ⟨fun σ H => ∃ dn fl, σ = [some (.ref p), some (.ref dn), some (.ref fl), none, none, none] ∧ H dn = some (.lst ((pinit ns.length).d.map V.int)) ∧ H fl = some (.lst ((pinit ns.length).d.map V.int)) ∧ dn ≠ fl ∧ H0 dn = none ∧ H0 fl = none ∧ Same H0 H, ?_, ?_⟩
    · refine ⟨_, rfl, dn, _, rfl, .inl (SqL.of hdn), fun fl hfl => g_name ?_⟩
      have e1 := Same.new (o := .lst ((pinit ns.length).d.map V.int)) hfl
      exact ⟨dn, fl, rfl, e1 _ _ hdn, upd_same, ne_of_none hdn hfl, h0dn, Same.free sm hfl, sm.trans e1⟩
    clear hdn h0dn sm
    rintro σ H ⟨dn, fl, rfl, hdn, hfl, n1, h0dn, h0fl, sm⟩
    -- safe
    refine ⟨fun σ H => ∃ dn fl sf, σ = [some (.ref p), some (.ref dn), some (.ref fl), some (.ref sf), none, none] ∧ H dn = some (.lst ((pinit ns.length).d.map V.int)) ∧ H fl = some (.lst ((pinit ns.length).d.map V.int)) ∧ H sf = some (.lst ((pinit ns.length).d.map V.int)) ∧
      (dn ≠ fl ∧ dn ≠ sf ∧ fl ≠ sf) ∧ H0 dn = none ∧ H0 fl = none ∧ Same H0 H, ?_, ?_⟩
    · refine ⟨_, rfl, dn, _, rfl, .inl (SqL.of hdn), fun sf hsf => g_name ?_⟩
      have e1 := Same.new (o := .lst ((pinit ns.length).d.map V.int)) hsf
      exact ⟨dn, fl, sf, rfl, e1 _ _ hdn, e1 _ _ hfl, upd_same, ⟨n1, ne_of_none hdn hsf, ne_of_none hfl hsf⟩, h0dn, h0fl, sm.trans e1⟩
    clear hdn hfl n1 h0dn h0fl sm
    rintro σ H ⟨dn, fl, sf, rfl, hdn, hfl, hsf, nn, h0dn, h0fl, sm⟩
    -- a row of the tuples of done and safe
    have row : ∀ (σ : L2.St) (H : Hp) (x : Pg) (dn sf : Addr) (R : VK), σ[1]? = some (some (.ref dn)) → σ[3]? = some (some (.ref sf)) → H dn = some (.lst (x.d.map V.int)) → H sf = some (.lst (x.s.map V.int)) →
        (∀ v H', Same H H' → RowAt H' v x → R v H') →
        tTup (tCons (tCB (fun xs H Q => ∃ p ys, xs = [.ref p] ∧ ((SqL K H p ys ∧ ∀ l, H l = none → Q (.ref l) (upd H l (.tup ys))) ∨ (SqT K H p ys ∧ Q (.ref p) H))) (tCons (tVar 1) tNil))
          (tCons (tCB (fun xs H Q => ∃ p ys, xs = [.ref p] ∧ ((SqL K H p ys ∧ ∀ l, H l = none → Q (.ref l) (upd H l (.tup ys))) ∨ (SqT K H p ys ∧ Q (.ref p) H))) (tCons (tVar 3) tNil)) tNil)) σ H R := by
      intro σ H x dn sf R s1 s3 hd hs hR
      refine ⟨_, s1, dn, _, rfl, .inl ⟨SqL.of hd, fun a ha => ?_⟩⟩
      have e1 := Same.new (o := .tup (x.d.map V.int)) ha
      refine ⟨_, s3, sf, _, rfl, .inl ⟨SqL.of (e1 _ _ hs), fun b hb => ?_⟩⟩
      have e2 := Same.new (o := .tup (x.s.map V.int)) hb
      refine ⟨by show 2 ≤ sizeLine; decide, fun r hr => hR _ _ ((e1.trans e2).trans (Same.new hr)) ⟨r, a, b, rfl, upd_same, ?_, ?_⟩⟩
      · exact Same.new hr _ _ (e2 _ _ upd_same)
      · exact Same.new hr _ _ upd_same
    -- rows
    refine ⟨pInv d p ns cs H0 (pinit ns.length) 1, ?_, ?_⟩
    · refine asg_lst1 ?_
      refine row [some (.ref p), some (.ref dn), some (.ref fl), some (.ref sf), none, none] _ (pinit ns.length) dn sf _ rfl rfl hdn hsf fun v H1 e1 hr1 => ?_
      refine ⟨by show 1 ≤ sizeLine; decide, fun rw hrw => g_name ?_⟩
      have e2 := Same.new (o := .lst [v]) hrw
      refine ⟨dn, fl, sf, rw, [v], ⟨_, rfl⟩, e2 _ _ (e1 _ _ hdn), e2 _ _ (e1 _ _ hfl), e2 _ _ (e1 _ _ hsf), upd_same, ?_, ⟨nn.1, nn.2.1, ne_of_none (e1 _ _ hdn) hrw, nn.2.2, ne_of_none (e1 _ _ hfl) hrw, ne_of_none (e1 _ _ hsf) hrw⟩,
        ⟨h0dn, h0fl, Same.free (sm.trans e1) hrw⟩, (sm.trans e1).trans e2⟩
      have e0 : rowsOf ns.length cs 1 = [] ++ [prun ns.length (cs.take 0)] := by
        rw [rowsOf_succ]
        rfl
      rw [e0]
      exact All2.snoc .nil (hr1.ke (Ke.same e2))
    clear hdn hfl hsf nn h0dn h0fl sm
    rintro σ H hI
    -- the commands
    refine ⟨fun σ H => pInv d p ns cs H0 (prun ns.length cs) (cs.length + 1) σ H, ?_, ?_⟩
    · obtain ⟨dn, fl, sf, rw, vs, ⟨v5, rfl⟩, r⟩ := id hI
      have sm : Same H0 H := r.2.2.2.2.2.2.2
      refine ⟨_, rfl, p, d.pr, dx, _, _, rfl, sm _ _ hp, T.cP, T.nCo, rfl, ?_⟩
      refine ⟨t, rfl, ⟨xs, SqT.of (sm _ _ ht)⟩, for_tup (K := K) (a := t) (xs := xs) (fun i σ H => pInv d p ns cs H0 (prun ns.length (cs.take i)) (i + 1) σ H) hI (fun i σ H _ h => ?_) ?_ ?_⟩
      · obtain ⟨_, _, _, _, _, _, _, _, _, _, _, _, _, sm2⟩ := h
        exact SqT.of (sm2 _ _ ht)
      · clear hI r sm
        rintro i v σ H hi ⟨dn, fl, sf, rw, vs, ⟨v5, rfl⟩, hdn, hfl, hsf, hrw, hA, nn, h0, sm⟩
        obtain ⟨c, hc, hcv⟩ := hx.get hi
        obtain ⟨a, da, rfl, ha0⟩ := hcv
        have ha := sm _ _ ha0
        have hvc := hv c (List.mem_of_getElem? hc)
        have hlen := prun_len ns.length (cs.take i)
        have e3 : prun ns.length (cs.take (i + 1)) = pstep (prun ns.length (cs.take i)) c := by
          rw [take_snoc hc, prun_snoc]
        refine g_name ?_
        -- the command, then the row
        refine ⟨fun σ H => ∃ (dn fl sf : Addr), σ = [some (.ref p), some (.ref dn), some (.ref fl), some (.ref sf), some (.ref rw), some (.ref a)] ∧
          H dn = some (.lst ((prun ns.length (cs.take (i + 1))).d.map V.int)) ∧ H fl = some (.lst ((prun ns.length (cs.take (i + 1))).f.map V.int)) ∧ H sf = some (.lst ((prun ns.length (cs.take (i + 1))).s.map V.int)) ∧ H rw = some (.lst vs) ∧
          All2 (RowAt H) vs (rowsOf ns.length cs (i + 1)) ∧ (dn ≠ fl ∧ dn ≠ sf ∧ dn ≠ rw ∧ fl ≠ sf ∧ fl ≠ rw ∧ sf ≠ rw) ∧ (H0 dn = none ∧ H0 fl = none ∧ H0 rw = none) ∧ Same H0 H, ?_, ?_⟩
        · rw [e3]
          refine s_if (σ := [some (.ref p), some (.ref dn), some (.ref fl), some (.ref sf), some (.ref rw), some (.ref a)]) (a_val (v_isi (σ := [some (.ref p), some (.ref dn), some (.ref fl), some (.ref sf), some (.ref rw), some (.ref a)]) (val_var (i := 5) rfl) val_c (T.oc c) ha (T.kS c))) (fun hb => ?_) (fun hb => ?_)
          · cases c with
            | flush l => cases hb
            | fence => cases hb
            | store l w n =>
              obtain ⟨l0, l1⟩ := store_line hvc
              obtain ⟨j, rfl⟩ : ∃ j : Nat, l = (j : Int) := ⟨l.toNat, (Int.toNat_of_nonneg l0).symm⟩
              have hj : j < (prun ns.length (cs.take i)).d.length := by rw [hlen.1]; omega
              have hat : ((prun ns.length (cs.take i)).d.map V.int)[j]? = some (.int ((prun ns.length (cs.take i)).d.getD j 0)) := by
                rw [List.getElem?_map, List.getD_eq_getElem?_getD]
                simp [hj]
              refine ⟨_, rfl, _, rfl, a, d.st, da, _, .int (j : Int), rfl, ha, (T.oc (.store j w n)).cl, T.nL, rfl, dn, _, j, _, rfl, rfl, SqL.of hdn, hat, _, _, rfl, rfl, dn, _, _, j, rfl, rfl, hdn, Evl.ixN_nat (by rw [List.length_map]; exact hj), ?_⟩
              refine ⟨dn, fl, sf, rfl, ?_, by rw [upd_ne (Ne.symm nn.1)]; exact hfl, by rw [upd_ne (Ne.symm nn.2.1)]; exact hsf, by rw [upd_ne (Ne.symm nn.2.2.1)]; exact hrw, hA.mono fun v x q => q.ke (Ke.lst hdn), nn, h0, Same.mut sm h0.1⟩
              rw [upd_same, ← List.map_set]
              rfl
          · refine s_if (σ := [some (.ref p), some (.ref dn), some (.ref fl), some (.ref sf), some (.ref rw), some (.ref a)]) (a_val (v_isi (σ := [some (.ref p), some (.ref dn), some (.ref fl), some (.ref sf), some (.ref rw), some (.ref a)]) (val_var (i := 5) rfl) val_c (T.oc c) ha (T.kF c))) (fun hb2 => ?_) (fun hb2 => ?_)
            · cases c with
              | store l w n => cases hb
              | fence => cases hb2
              | flush l =>
                obtain ⟨l0, l1⟩ := flush_line hvc
                obtain ⟨j, rfl⟩ : ∃ j : Nat, l = (j : Int) := ⟨l.toNat, (Int.toNat_of_nonneg l0).symm⟩
                have hj : j < (prun ns.length (cs.take i)).d.length := by rw [hlen.1]; omega
                have hj2 : j < (prun ns.length (cs.take i)).f.length := by rw [hlen.2.1]; omega
                have hat : ((prun ns.length (cs.take i)).d.map V.int)[j]? = some (.int ((prun ns.length (cs.take i)).d.getD j 0)) := by
                  rw [List.getElem?_map, List.getD_eq_getElem?_getD]
                  simp [hj]
                refine ⟨_, rfl, _, rfl, a, d.fl, da, _, .int (j : Int), rfl, ha, (T.oc (.flush j)).cl, T.nFl, rfl, dn, _, _, _, rfl, rfl, SqL.of hdn, atI_nat hat, ?_⟩
                refine ⟨_, rfl, _, rfl, a, d.fl, da, _, .int (j : Int), rfl, ha, (T.oc (.flush j)).cl, T.nFl, rfl, fl, _, _, j, rfl, rfl, hfl, Evl.ixN_nat (by rw [List.length_map]; exact hj2), ?_⟩
                refine ⟨dn, fl, sf, rfl, by rw [upd_ne nn.1]; exact hdn, ?_, by rw [upd_ne (Ne.symm nn.2.2.2.1)]; exact hsf, by rw [upd_ne (Ne.symm nn.2.2.2.2.1)]; exact hrw, hA.mono fun v x q => q.ke (Ke.lst hfl), nn, h0, Same.mut sm h0.2.1⟩
                rw [upd_same, ← List.map_set]
                rfl
            · cases c with
              | store l w n => cases hb
              | flush l => cases hb2
              | fence =>
                refine ⟨_, rfl, fl, _, rfl, .inl (SqL.of hfl), fun sg hsg => g_name ?_⟩
                have e1 := Same.new (o := .lst ((prun ns.length (cs.take i)).f.map V.int)) hsg
                exact ⟨dn, fl, sg, rfl, e1 _ _ hdn, e1 _ _ hfl, upd_same, e1 _ _ hrw, hA.mono fun v x q => q.ke (Ke.same e1), ⟨nn.1, ne_of_none hdn hsg, nn.2.2.1, ne_of_none hfl hsg, nn.2.2.2.2.1, Ne.symm (ne_of_none hrw hsg)⟩, h0, sm.trans e1⟩
        clear hdn hfl hsf hrw hA nn h0 sm hlen ha
        rintro σ H ⟨dn, fl, sf, rfl, hdn, hfl, hsf, hrw, hA, nn, h0, sm⟩
        refine ⟨_, rfl, .inl ⟨rfl, _, SqL.of hrw⟩, ?_⟩
        refine cons1 ?_
        refine row [some (.ref p), some (.ref dn), some (.ref fl), some (.ref sf), some (.ref rw), some (.ref a)] _ (prun ns.length (cs.take (i + 1))) dn sf _ rfl rfl hdn hsf fun v H1 e1 hr1 => ?_
        have hrw1 := e1 _ _ hrw
        have hil : i < cs.length := (List.getElem?_eq_some_iff.mp hc).1
        refine ⟨rw, vs, v, rfl, rfl, hrw1, small1000 (by rw [hA.1, rows_len]; omega), ?_⟩
        have ke2 : Ke H1 (upd H1 rw (.lst (vs ++ [v]))) := Ke.lst hrw1
        refine ⟨dn, fl, sf, rw, vs ++ [v], ⟨_, rfl⟩, by rw [upd_ne nn.2.2.1]; exact e1 _ _ hdn, by rw [upd_ne nn.2.2.2.2.1]; exact e1 _ _ hfl, by rw [upd_ne nn.2.2.2.2.2]; exact e1 _ _ hsf, upd_same, ?_, nn, h0, Same.mut (sm.trans e1) h0.2.2⟩
        rw [rowsOf_succ]
        exact All2.snoc (hA.mono fun v x q => q.ke ((Ke.same e1).trans ke2)) (hr1.ke ke2)
      · rintro σ H h
        rw [hx.1, List.take_length] at h
        exact h
    clear hI
    rintro σ H ⟨dn, fl, sf, rw, vs, ⟨v5, rfl⟩, _, _, _, hrw, hA, _, _, sm⟩
    exact ⟨_, rfl, k rw vs H sm hrw hA⟩
end
abbrev sTime : Stmt := topS 22
theorem scTime : FnScope ["program", "time"] ["program", "time"] (defScope sTime) := ⟨rfl, rfl, rfl, by decide +kernel, rfl, by decide +kernel, by decide +kernel⟩
section
variable {P : Program} {w : World} {K : PySem.W.Frag} {mg : Str → Option Value} {base : Heap}
theorem ok_time {f : Addr} {d : Ad} {fd : FuncData} (F : Fun K "check_time" "check_time" sTime f fd) (T : TProg K mg d) (ET : Err P w K mg base "NoTime" d.nt 1 ["self", "time"] (spInit1 d.nt "time")) :
    FnOk P w K mg base (L2.CX P w) 3 f fd ["program", "time"] (spTime d) := by
  refine F.okX scTime (fun vs H Q E h => ?_) (fun cdv A outer s H vs Q E hr h => ?_)
  · obtain ⟨p, ns, cs, t, rfl, _⟩ := h
    rfl
  · obtain ⟨p, ns, cs, tm, rfl, ⟨dx, m, t, xs, hp, hm, ht, hx⟩, k⟩ := h
    refine ⟨_, (pss_one (ps_if (pt_not (pt_chain op_le op_le pe_int (pv 1) (pe_callB call_len_seq (by rfl) T.b_len (by decide +kernel) (pa_cons (pe_fld (pv 0) rfl) pa_nil)))) (pss_one (ps_raise rfl (takes_of rfl rfl rfl rfl) (pmk_err ET (hr.mono (by decide)) (by rfl) (pa_cons (pv 1) pa_nil)))) pss_nil)), ?_⟩
    have vf : Val (tFld K (tVar 0) "commands") [some (.ref p), some (.int tm)] H (.ref t) := val_fld (val_var rfl) hp T.cP T.nCo rfl
    have vl : (xs.length : Int) = cs.length := by rw [hx.1]
    refine s_if (ans_not (a_lele val_c (val_var (v := .int tm) rfl) (v_len (b := false) vf (Sq.t ht)))) (fun hb => ?_) (fun hb => ?_)
    · rw [vl] at hb
      have e : timeErr cs tm = some (.time tm) := if_neg (nd_t hb)
      rw [e] at k
      exact ⟨_, rfl, by show 1 ≤ 1000; decide, mk1 k⟩
    · rw [vl] at hb
      have e : timeErr cs tm = none := if_pos (nd_f hb)
      rw [e] at k
      exact k
end
abbrev sMade : Stmt := topS 24
theorem scMade : FnScope ["program", "time"] ["program", "time"] (defScope sMade) := ⟨rfl, rfl, rfl, by decide +kernel, rfl, by decide +kernel, by decide +kernel⟩
section
variable {P : Program} {w : World} {K : PySem.W.Frag} {mg : Str → Option Value} {base : Heap}
theorem ok_made {f : Addr} {d : Ad} {fd : FuncData} (F : Fun K "made" "made" sMade f fd) (FT : Cal P w K mg base (L2.CX P w) "check_time" 3 ["program", "time"] (spTime d)) (FP : Cal P w K mg base CX0 "progress" 1 ["program"] (spProgress d)) :
    FnOk P w K mg base (L2.CX P w) 4 f fd ["program", "time"] (spAt d Pg.d) := by
  refine F.okX scMade (fun vs H Q E h => ?_) (fun cdv A outer s H vs Q E hr h => ?_)
  · obtain ⟨p, ns, cs, t, rfl, _⟩ := h
    rfl
  · obtain ⟨p, ns, cs, t, rfl, hP, hv, h6, h200, kE, kQ⟩ := h
    refine ⟨_, (pss_cons (ps_expr (pe_cal FT (hr.mono (by decide)) (by rfl) (passes_call (takes_of rfl rfl rfl rfl) (fun _ _ _ _ h => h)) (pa_cons (pv 0) (pa_cons (pv 1) pa_nil))))
    (pss_one (ps_ret (pe_ix ix_tup (pe_ix ix_list (pe_cal FP (hr.mono (by decide)) (by rfl) pass0 (pa_cons (pv 0) pa_nil)) (pv 1) (fun _ _ => rfl)) pe_int (fun _ _ => rfl))))), ?_⟩
    refine ⟨_, rfl, _, rfl, p, ns, cs, t, rfl, hP, ?_⟩
    cases e : timeErr cs t with
    | some er => exact kE er e
    | none =>
      have ht : 0 ≤ t ∧ t ≤ cs.length := by
        by_cases z : 0 ≤ t ∧ t ≤ cs.length
        · exact z
        · have e2 : timeErr cs t = some (.time t) := if_neg z
          rw [e] at e2
          cases e2
      refine ⟨_, rfl, p, ns, cs, rfl, hP, hv, h6, h200, fun r xs H1 e1 hr1 hA => ?_⟩
      have hrow : (rowsOf ns.length cs (cs.length + 1))[t.toNat]? = some (prun ns.length (cs.take t.toNat)) := by
        unfold rowsOf
        rw [List.getElem?_map, List.getElem?_range (by omega)]
        rfl
      obtain ⟨v, hv2, hR⟩ := hA.get' hrow
      obtain ⟨q, a, b, rfl, hq, ha, hb⟩ := hR
      have hat := atI_nat hv2
      rw [Int.toNat_of_nonneg ht.1] at hat
      exact ⟨_, rfl, r, xs, t, _, rfl, rfl, SqL.of hr1, hat, q, _, 0, _, rfl, rfl, SqT.of hq, at0, kQ e _ H1 e1 ha⟩
end
abbrev sSure : Stmt := topS 25
theorem scSure : FnScope ["program", "time"] ["program", "time"] (defScope sSure) := ⟨rfl, rfl, rfl, by decide +kernel, rfl, by decide +kernel, by decide +kernel⟩
section
variable {P : Program} {w : World} {K : PySem.W.Frag} {mg : Str → Option Value} {base : Heap}
theorem ok_sure {f : Addr} {d : Ad} {fd : FuncData} (F : Fun K "sure" "sure" sSure f fd) (FT : Cal P w K mg base (L2.CX P w) "check_time" 3 ["program", "time"] (spTime d)) (FP : Cal P w K mg base CX0 "progress" 1 ["program"] (spProgress d)) :
    FnOk P w K mg base (L2.CX P w) 4 f fd ["program", "time"] (spAt d Pg.s) := by
  refine F.okX scSure (fun vs H Q E h => ?_) (fun cdv A outer s H vs Q E hr h => ?_)
  · obtain ⟨p, ns, cs, t, rfl, _⟩ := h
    rfl
  · obtain ⟨p, ns, cs, t, rfl, hP, hv, h6, h200, kE, kQ⟩ := h
    refine ⟨_, (pss_cons (ps_expr (pe_cal FT (hr.mono (by decide)) (by rfl) (passes_call (takes_of rfl rfl rfl rfl) (fun _ _ _ _ h => h)) (pa_cons (pv 0) (pa_cons (pv 1) pa_nil))))
    (pss_one (ps_ret (pe_ix ix_tup (pe_ix ix_list (pe_cal FP (hr.mono (by decide)) (by rfl) pass0 (pa_cons (pv 0) pa_nil)) (pv 1) (fun _ _ => rfl)) pe_int (fun _ _ => rfl))))), ?_⟩
    refine ⟨_, rfl, _, rfl, p, ns, cs, t, rfl, hP, ?_⟩
    cases e : timeErr cs t with
    | some er => exact kE er e
    | none =>
      have ht : 0 ≤ t ∧ t ≤ cs.length := by
        by_cases z : 0 ≤ t ∧ t ≤ cs.length
        · exact z
        · have e2 : timeErr cs t = some (.time t) := if_neg z
          rw [e] at e2
          cases e2
      refine ⟨_, rfl, p, ns, cs, rfl, hP, hv, h6, h200, fun r xs H1 e1 hr1 hA => ?_⟩
      have hrow : (rowsOf ns.length cs (cs.length + 1))[t.toNat]? = some (prun ns.length (cs.take t.toNat)) := by
        unfold rowsOf
        rw [List.getElem?_map, List.getElem?_range (by omega)]
        rfl
      obtain ⟨v, hv2, hR⟩ := hA.get' hrow
      obtain ⟨q, a, b, rfl, hq, ha, hb⟩ := hR
      have hat := atI_nat hv2
      rw [Int.toNat_of_nonneg ht.1] at hat
      exact ⟨_, rfl, r, xs, t, _, rfl, rfl, SqL.of hr1, hat, q, _, 1, _, rfl, rfl, SqT.of hq, at1, kQ e _ H1 e1 hb⟩
end
end Q

namespace Q
open PySem PySem.Spec PyProof.Rows L2 LamX
abbrev sSizes : Stmt := topS 30
theorem scSizes : FnScope ["_law_source_here", "_law_most", "_law_k"] ["_law_source_here", "_law_most"] (defScope sSizes) := ⟨rfl, rfl, rfl, by decide +kernel, rfl, by decide +kernel, by decide +kernel⟩
abbrev nSizes : List Str := ["_law_source_here", "_law_most", "_law_k"]
section
variable {P : Program} {w : World} {K : PySem.W.Frag} {mg : Str → Option Value} {base : Heap}
structure TRange (mg : Str → Option Value) : Prop where
  b_range : mg "range" = none
theorem ok_sizes {f : Addr} {fd : FuncData} (F : Fun K "_law_sizes" "_law_sizes" sSizes f fd) (T : TRange mg) (FD : Cal P w K mg base CX0 "_law_draw" 1 ["_law_source_here", "_law_many"] spDraw) : FnOk P w K mg base CX0 2 f fd ["_law_source_here", "_law_most"] spSizes := by
  refine F.ok scSizes (fun vs H Q E h => ?_) (fun cdv A outer s H vs Q E hr h => ?_)
  · obtain ⟨S, m, rfl, _⟩ := h
    rfl
  · obtain ⟨S, m, rfl, hs, m1, m6, k⟩ := h
    refine ⟨_, (pss_one (ps_ret (pe_lc (own := [("_law_k", 2)]) (g := gName 2) (tt := tYes) (by rfl) scSizes.nd (pi_range1 (by rfl) T.b_range (pa_cons (pe_op op_add pe_int (pe_cal FD (hr.mono (by decide)) (by rfl) pass0 (pa_cons (pv 0) (pa_cons (pv 1) pa_nil)))) pa_nil)) (blkOk_by (own := [("_law_k", 2)]) (N := nSizes) (sc := defScope sSizes) (by decide +kernel)) (fun _ _ _ _ _ => (pg_name (i := 2) scSizes.nd rfl (Or.inl rfl))) (fun _ _ _ _ _ => pts_nil) (fun _ _ _ _ _ => (pe_op op_add pe_int (pe_cal FD (hr.mono (by decide)) (by rfl) pass0 (pa_cons (pv 0) (pa_cons pe_int pa_nil)))))))), ?_⟩
    refine ⟨_, rfl, _, rfl, S, m, rfl, hs, by omega, by omega, fun r H1 r0 r1 hs1 ks => ?_⟩
    refine ⟨_, _, rfl, rfl, _, rfl, by omega, by omega, fun Dl hD => ?_⟩
    have nDS : Dl ≠ S := src_ne (o := .lst []) hs1 hD
    refine lc_range (lo := 0) (n := (1 + r).toNat) (fun i H' => ∃ ns : List Int, ns.length = i ∧ (∀ n ∈ ns, 1 ≤ n ∧ n ≤ 4) ∧ H' Dl = some (.lst (ns.map V.int)) ∧ HasSrc S H' ∧ Ks S H1 H') ⟨[], rfl, fun n hn => by simp at hn, upd_same, src_new hs1 hD, Ks.of (Same.new hD)⟩ ?_ ?_
    · rintro i H2 hi ⟨ns, hl, hg, hDl, hs2, ks2⟩
      refine ⟨rfl, lc_yes ?_⟩
      refine ⟨_, rfl, S, 4, rfl, hs2, by decide, by decide, fun z H3 z0 z1 hs3 ks3 => ?_⟩
      have hD3 : H3 Dl = some (.lst (ns.map V.int)) := ks3 _ _ hDl nDS
      refine ⟨_, _, rfl, rfl, _, hD3, small1000 (by rw [List.length_map]; omega), ns ++ [1 + z], by rw [List.length_append, hl]; rfl, fun n hn => ?_, by rw [List.map_append]; exact upd_same, src_mut hs3 (Ne.symm nDS), (ks2.trans ks3).mut hD⟩
      rcases List.mem_append.mp hn with h | h
      · exact hg n h
      · rw [List.mem_singleton.mp h]
        omega
    · rintro H2 ⟨ns, hl, hg, hDl, hs2, ks2⟩
      exact k Dl ns H2 hs2 (ks.trans ks2) hDl nDS (Ks.free ks hs1 hD) ⟨by omega, hg⟩ (by omega)
end
abbrev sNum : Stmt := topS 31
theorem scNum : FnScope ["_law_source_here", "_law_great"] ["_law_source_here"] (defScope sNum) := ⟨rfl, rfl, rfl, by decide +kernel, rfl, by decide +kernel, by decide +kernel⟩
section
variable {P : Program} {w : World} {K : PySem.W.Frag} {mg : Str → Option Value} {base : Heap}
theorem ok_num {f : Addr} {fd : FuncData} (F : Fun K "_law_number" "_law_number" sNum f fd) (FD : Cal P w K mg base CX0 "_law_draw" 1 ["_law_source_here", "_law_many"] spDraw) (FP : Cal P w K mg base CX0 "_law_pick" 2 ["_law_source_here", "_law_items"] (spPick K)) : FnOk P w K mg base CX0 3 f fd ["_law_source_here"] spNumber := by
  refine F.ok scNum (fun vs H Q E h => ?_) (fun cdv A outer s H vs Q E hr h => ?_)
  · obtain ⟨S, rfl, _⟩ := h
    rfl
  · obtain ⟨S, rfl, hs, k⟩ := h
    refine ⟨_, (pss_cons (ps_set (i := 1) scNum.nd rfl (Or.inl rfl) (pe_op op_add (pe_op op_pow pe_int pe_int) (pe_cal FD (hr.mono (by decide)) (by rfl) pass0 (pa_cons (pv 0) (pa_cons (pe_op op_pow pe_int pe_int) pa_nil)))))
    (pss_one (ps_ret (pe_cal FP (hr.mono (by decide)) (by rfl) pass0 (pa_cons (pv 0) (pa_cons (pe_lst (pa_cons pe_int (pa_cons pe_int (pa_cons pe_int (pa_cons (pe_un un_neg pe_int) (pa_cons pe_int (pa_cons (pv 1) (pa_cons (pe_op op_sub pe_int (pv 1)) (pa_cons (pe_cal FD (hr.mono (by decide)) (by rfl) pass0 (pa_cons (pv 0) (pa_cons pe_int pa_nil))) pa_nil))))))))) pa_nil)))))), ?_⟩
    refine ⟨_, _, rfl, rfl, ⟨by decide, by decide, by decide⟩, _, rfl, _, _, rfl, rfl, ⟨by decide, by decide, by decide⟩, S, _, rfl, hs, by decide, by decide, fun r H1 r0 r1 hs1 ks1 => ?_⟩
    refine ⟨_, _, rfl, rfl, ?_⟩
    generalize (10 : Int) ^ (30 : Int).toNat + r = g
    refine ⟨_, rfl, _, rfl, _, rfl, _, rfl, _, _, rfl, rfl, _, rfl, S, _, rfl, hs1, by decide, by decide, fun q H2 q0 q1 hs2 ks2 => ?_⟩
    refine ⟨by show 8 ≤ sizeLine; decide, fun p hp => ?_⟩
    refine ⟨S, p, _, rfl, src_new hs2 hp, upd_same, src_ne (o := .lst []) hs2 hp, by show 0 < 8; decide, by show 8 < 1000000; decide, fun x H3 hx hs3 ks3 => ?_⟩
    obtain ⟨z, rfl⟩ : ∃ z, x = .int z := by
      simp only [List.mem_cons, List.not_mem_nil, or_false] at hx
      rcases hx with rfl | rfl | rfl | rfl | rfl | rfl | rfl | rfl <;> exact ⟨_, rfl⟩
    exact k z H3 hs3 ((ks1.trans ks2).trans ((Ks.of (Same.new hp)).trans ks3))
end
abbrev sSpecs : Stmt := topS 32
theorem scSpecs : FnScope ["_law_source_here", "_law_sizes_so", "_law_least", "_law_most", "_law_result", "_law_k", "_law_kind", "_law_a"] ["_law_source_here", "_law_sizes_so", "_law_least", "_law_most"] (defScope sSpecs) := ⟨rfl, rfl, rfl, by decide +kernel, rfl, by decide +kernel, by decide +kernel⟩
section
variable {P : Program} {w : World} {K : PySem.W.Frag} {mg : Str → Option Value} {base : Heap}
theorem ok_specs {f : Addr} {fd : FuncData} (F : Fun K "_law_specs" "_law_specs" sSpecs f fd) (T : TRange mg) (T2 : TPick mg) (FD : Cal P w K mg base CX0 "_law_draw" 1 ["_law_source_here", "_law_many"] spDraw) (FP : Cal P w K mg base CX0 "_law_pick" 2 ["_law_source_here", "_law_items"] (spPick K)) (FN : Cal P w K mg base CX0 "_law_number" 3 ["_law_source_here"] spNumber) : FnOk P w K mg base CX0 4 f fd ["_law_source_here", "_law_sizes_so", "_law_least", "_law_most"] spSpecs := by
  refine F.ok scSpecs (fun vs H Q E h => ?_) (fun cdv A outer s H0 vs Q E hr h => ?_)
  · obtain ⟨S, p, ns, lo, hi, rfl, _⟩ := h
    rfl
  · obtain ⟨S, p, ns, lo, hi, rfl, hs0, hp0, nps, ok, lo0, lohi, hi200, k⟩ := h
    refine ⟨_, (Evl.pss_cut (ps_set (i := 4) scSpecs.nd rfl (Or.inl rfl) (pe_lst pa_nil))
    (Evl.pss_cut (ps_for PassesOwn.never rfl (pi_range1 (by rfl) T.b_range (pa_cons (pe_op op_add (pv 2) (pe_cal FD (hr.mono (by decide)) (by rfl) pass0 (pa_cons (pv 0) (pa_cons (pe_op op_add (pe_op op_sub (pv 3) (pv 2)) pe_int) pa_nil)))) pa_nil)) (pg_name (i := 5) scSpecs.nd rfl (Or.inl rfl)) (Evl.pss_cut (ps_set (i := 6) scSpecs.nd rfl (Or.inl rfl) (pe_cal FP (hr.mono (by decide)) (by rfl) pass0 (pa_cons (pv 0) (pa_cons (pe_lst (pa_cons pe_str (pa_cons pe_str (pa_cons pe_str (pa_cons pe_str (pa_cons pe_str (pa_cons pe_str pa_nil))))))) pa_nil))))
    (Evl.pss_cut (ps_set (i := 7) scSpecs.nd rfl (Or.inl rfl) (pe_cal FD (hr.mono (by decide)) (by rfl) pass0 (pa_cons (pv 0) (pa_cons (pe_callB call_len_seq (by rfl) T2.b_len (by decide +kernel) (pa_cons (pv 1) pa_nil)) pa_nil))))
    (pss_one (ps_expr (pe_bm PySem.F.plainAttrs_list PySem.F.slot_list_append PySem.F.type_list_append mt_append (pv 4) (pa_cons (pe_tup (pa_cons (pv 6) (pa_cons (pv 7) (pa_cons (pe_cal FD (hr.mono (by decide)) (by rfl) pass0 (pa_cons (pv 0) (pa_cons (pe_ix ix_list (pv 1) (pv 7) (fun _ _ => rfl)) pa_nil))) (pa_cons (pe_cal FN (hr.mono (by decide)) (by rfl) pass0 (pa_cons (pv 0) pa_nil)) pa_nil))))) pa_nil)))))))
    (pss_one (ps_ret (pv 4))))), ?_⟩
    refine ⟨fun σ H => ∃ r, σ = [some (.ref S), some (.ref p), some (.int lo), some (.int hi), some (.ref r), none, none, none] ∧ HasSrc S H ∧ Ks S H0 H ∧ H r = some (.lst []) ∧ H0 r = none, ?_, ?_⟩
    · exact ⟨Nat.zero_le _, fun r hr => g_name ⟨r, rfl, src_new hs0 hr, Ks.of (Same.new hr), upd_same, hr⟩⟩
    rintro σ H ⟨r, rfl, hs, ks, hr, h0r⟩
    have nrs : r ≠ S := by
      obtain ⟨a, b, c, hS⟩ := hs0
      exact Ne.symm (ne_of_none hS h0r)
    refine ⟨fun σ H => ∃ ss, (∃ v5 v6 v7 : Option V, σ = [some (.ref S), some (.ref p), some (.int lo), some (.int hi), some (.ref r), v5, v6, v7]) ∧ HasSrc S H ∧ Ks S H0 H ∧ Specs H r ss ∧ (∀ s ∈ ss, Good ns s) ∧ lo ≤ (ss.length : Int) ∧ (ss.length : Int) ≤ hi, ?_, ?_⟩
    · refine ⟨_, rfl, _, rfl, _, rfl, _, rfl, _, _, rfl, rfl, _, _, rfl, rfl, S, _, rfl, hs, by omega, by omega, fun n H1 n0 n1 hs1 ks1 => ?_⟩
      refine ⟨_, _, rfl, rfl, _, rfl, by omega, by omega, ?_⟩
      refine for_range (lo := 0) (n := (lo + n).toNat) (fun i σ H => ∃ ss, (∃ v5 v6 v7 : Option V, σ = [some (.ref S), some (.ref p), some (.int lo), some (.int hi), some (.ref r), v5, v6, v7]) ∧ HasSrc S H ∧ Ks S H0 H ∧ Specs H r ss ∧ (∀ s ∈ ss, Good ns s) ∧ ss.length = i) ?_ ?_ ?_
      · exact ⟨[], ⟨_, _, _, rfl⟩, hs1, ks.trans ks1, ⟨[], ks1 _ _ hr nrs, .nil⟩, fun s h => by simp at h, rfl⟩
      · clear hs ks hr hs1 ks1
        rintro i σ H hit ⟨ss, ⟨v5, v6, v7, rfl⟩, hs, ks, hS, hg, hl⟩
        refine g_name ?_
        -- the kind
        refine ⟨fun σ H => ∃ kd : Kd, (∃ v5 v7 : Option V, σ = [some (.ref S), some (.ref p), some (.int lo), some (.int hi), some (.ref r), v5, some (.str kd.str), v7]) ∧ HasSrc S H ∧ Ks S H0 H ∧ Specs H r ss, ?_, ?_⟩
        · refine ⟨_, rfl, (by show 6 ≤ sizeLine; decide), fun q hq => ?_⟩
          have hS1 := hS.same (Same.new (o := .lst [.str "store", .str "store", .str "store", .str "flush", .str "flush", .str "fence"]) hq)
          refine ⟨S, q, _, rfl, src_new hs hq, upd_same, src_ne (o := .lst []) hs hq, by decide, by decide, fun x H2 hx hs2 ks2 => g_name ?_⟩
          obtain ⟨kd, rfl⟩ : ∃ kd : Kd, x = .str kd.str := by
            simp only [List.mem_cons, List.not_mem_nil, or_false] at hx
            rcases hx with rfl | rfl | rfl | rfl | rfl | rfl
            · exact ⟨.st, rfl⟩
            · exact ⟨.st, rfl⟩
            · exact ⟨.st, rfl⟩
            · exact ⟨.fl, rfl⟩
            · exact ⟨.fl, rfl⟩
            · exact ⟨.fe, rfl⟩
          exact ⟨kd, ⟨_, _, rfl⟩, hs2, (ks.trans (Ks.of (Same.new hq))).trans ks2, hS1.ks (src_new hs hq) nrs ks2⟩
        clear hs ks hS
        rintro σ H ⟨kd, ⟨v5, v7, rfl⟩, hs, ks, hS⟩
        -- the line
        refine ⟨fun σ H => ∃ a : Nat, a < ns.length ∧ (∃ v5 : Option V, σ = [some (.ref S), some (.ref p), some (.int lo), some (.int hi), some (.ref r), v5, some (.str kd.str), some (.int (a : Int))]) ∧ HasSrc S H ∧ Ks S H0 H ∧ Specs H r ss, ?_, ?_⟩
        · have hp := ks _ _ hp0 nps
          refine ⟨_, rfl, _, rfl, p, _, rfl, .inl (SqL.of hp), S, _, rfl, hs, ?_, ?_, fun z H2 z0 z1 hs2 ks2 => g_name ?_⟩
          · rw [List.length_map]; have := ok.1; omega
          · rw [List.length_map]; have := ok.1; omega
          · rw [List.length_map] at z1
            exact ⟨z.toNat, by omega, ⟨_, by rw [Int.toNat_of_nonneg z0]; rfl⟩, hs2, ks.trans ks2, hS.ks hs nrs ks2⟩
        clear hs ks hS
        rintro σ H ⟨a, ha, ⟨v5, rfl⟩, hs, ks, hS⟩
        -- the word, the number, the spec
        obtain ⟨vs, hr1, hA⟩ := id hS
        refine ⟨_, rfl, .inl ⟨rfl, vs, SqL.of hr1⟩, ?_⟩
        refine cons1 ?_
        have hp := ks _ _ hp0 nps
        have hsz := sizes_get ok ha
        refine ⟨_, rfl, _, rfl, _, rfl, _, rfl, _, rfl, p, _, _, _, rfl, rfl, SqL.of hp, atI_nat (sizes_at ha), S, _, rfl, hs, by omega, by omega, fun b H2 b0 b1 hs2 ks2 => ?_⟩
        refine ⟨_, rfl, S, rfl, hs2, fun c H3 hs3 ks3 => ?_⟩
        refine ⟨by show 4 ≤ sizeLine; decide, fun t ht => ?_⟩
        have ke : Ke H H3 := (Ke.ks hs ks2).trans (Ke.ks hs2 ks3)
        have hr3 : H3 r = some (.lst vs) := ks3 _ _ (ks2 _ _ hr1 nrs) nrs
        have e4 := Same.new (o := .tup [.str kd.str, .int (a : Int), .int b, .int c]) ht
        have hr4 := e4 _ _ hr3
        refine ⟨r, vs, .ref t, rfl, rfl, hr4, small1000 (by rw [hA.1]; omega), ss ++ [⟨kd, a, b, c⟩], ⟨_, _, _, rfl⟩, ?_, ?_, ⟨vs ++ [.ref t], upd_same, ?_⟩, ?_, by rw [List.length_append, hl]; rfl⟩
        · exact src_mut (Same.src e4 hs3) (Ne.symm nrs)
        · exact (((ks.trans ks2).trans ks3).trans (Ks.of e4)).mut h0r
        · have k5 := Ke.lst (o := .lst (vs ++ [.ref t])) hr4
          refine All2.snoc (hA.mono fun v c q => q.ke ((ke.trans (Ke.same e4)).trans k5)) ⟨t, rfl, ?_⟩
          exact k5 _ _ upd_same (fun _ z => by cases z) (fun _ z => by cases z)
        · intro s hs4
          rcases List.mem_append.mp hs4 with h | h
          · exact hg s h
          · rw [List.mem_singleton.mp h]
            exact ⟨⟨Int.natCast_nonneg a, by show (a : Int) < ns.length; omega⟩, b0, by show b < ns.getD (a : Int).toNat 0; rw [Int.toNat_natCast]; exact b1⟩
      · rintro σ H ⟨ss, hσ, hs, ks, hS, hg, hl⟩
        exact ⟨ss, hσ, hs, ks, hS, hg, by omega, by omega⟩
    clear hs ks hr
    rintro σ H ⟨ss, ⟨v5, v6, v7, rfl⟩, hs, ks, hS, hg, h1, h2⟩
    exact ⟨_, rfl, k r ss H hs ks hS nrs h0r hg h1 h2⟩
end
abbrev sComm : Stmt := topS 33
theorem scComm : FnScope ["_law_spec", "_law_kind", "_law_a", "_law_b", "_law_c"] ["_law_spec"] (defScope sComm) := ⟨rfl, rfl, rfl, by decide +kernel, rfl, by decide +kernel, by decide +kernel⟩
section
variable {P : Program} {w : World} {K : PySem.W.Frag} {mg : Str → Option Value} {base : Heap}
theorem ok_comm {f : Addr} {d : Ad} {fd : FuncData} (F : Fun K "_law_command" "_law_command" sComm f fd) (FS : Mak P w K mg base CX0 "Store" d.st 1 ["self", "line", "word", "number"] (spStoreI d)) (FF : Mak P w K mg base CX0 "Flush" d.fl 1 ["self", "line"] (spFlushI d)) (BF : Bare K mg "Fence" d.fe) :
    FnOk P w K mg base CX0 3 f fd ["_law_spec"] (spCommand d) := by
  refine F.ok scComm (fun vs H Q E h => ?_) (fun cdv A outer s H vs Q E hr h => ?_)
  · obtain ⟨v, s, rfl, _⟩ := h
    rfl
  · obtain ⟨v, s, rfl, ⟨r, rfl, hr1⟩, k⟩ := h
    refine ⟨_, (pss_cons (ps_asg (pv 0) (pg_tup (by rfl) (pgs_cons (pg_name (i := 1) scComm.nd rfl (Or.inl rfl)) (pgs_cons (pg_name (i := 2) scComm.nd rfl (Or.inl rfl)) (pgs_cons (pg_name (i := 3) scComm.nd rfl (Or.inl rfl)) (pgs_cons (pg_name (i := 4) scComm.nd rfl (Or.inl rfl)) pgs_nil))))))
    (pss_cons (ps_if (pt_cmpR op_eq (pv 1) pe_str (nomark _)) (pss_one (ps_ret (pe_mak FS hr (by rfl) pass0 (pa_cons (pv 2) (pa_cons (pv 3) (pa_cons (pv 4) pa_nil)))))) pss_nil)
    (pss_one (ps_ret (pe_ifExp (pt_cmpR op_eq (pv 1) pe_str (nomark _)) (pe_mak FF hr (by rfl) pass0 (pa_cons (pv 2) pa_nil)) (pe_bare BF (by rfl))))))), ?_⟩
    refine ⟨_, rfl, r, _, rfl, SqT.of hr1, rfl, _, _, rfl, _, _, rfl, _, _, rfl, _, _, rfl, rfl, ?_⟩
    refine ⟨_, rfl, rfl, _, rfl, ?_⟩
    have made : ∀ (x dx : Addr) (fs : List (Str × V)) (C : Addr), H x = none → H dx = none → dx ≠ x → Same H (upd (upd (upd H dx (.own x)) x (.ins C dx [])) x (.ins C dx fs)) := fun x dx fs C nx ndx ne => Same.mut (Same.mut (Same.new ndx) nx) nx
    refine ite_kd .st (fun ek => ?_) (fun ek => ?_)
    · refine ⟨_, rfl, _, rfl, _, rfl, fun x dx nx ndx ne => ⟨x, dx, _, _, _, rfl, upd_same, rfl, ?_⟩⟩
      refine k x _ (made x dx _ _ nx ndx ne) ⟨x, dx, rfl, ?_⟩
      rw [upd_same]
      unfold Sc.cmd
      rw [ek]
      rfl
    · refine ⟨_, rfl, rfl, _, rfl, ?_⟩
      refine ite_kd .fl (fun ek2 => ?_) (fun e2 => ?_)
      · refine ⟨_, rfl, fun x dx nx ndx ne => ⟨x, dx, _, rfl, upd_same, rfl, ?_⟩⟩
        refine k x _ (made x dx _ _ nx ndx ne) ⟨x, dx, rfl, ?_⟩
        rw [upd_same]
        unfold Sc.cmd
        rw [ek2]
        rfl
      · have ek2 : s.k = .fe := by
          cases q : s.k with
          | st => exact absurd q ek
          | fl => exact absurd q e2
          | fe => rfl
        refine fun x dx nx ndx ne => k x _ (Same.mut (Same.new ndx) nx) ⟨x, dx, rfl, ?_⟩
        rw [upd_same]
        unfold Sc.cmd
        rw [ek2]
        rfl
end
abbrev sLProg : Stmt := topS 34
theorem scLProg : FnScope ["_law_sizes_so", "_law_specs_here", "_law_spec"] ["_law_sizes_so", "_law_specs_here"] (defScope sLProg) := ⟨rfl, rfl, rfl, by decide +kernel, rfl, by decide +kernel, by decide +kernel⟩
abbrev nLProg : List Str := ["_law_sizes_so", "_law_specs_here", "_law_spec"]
section
variable {P : Program} {w : World} {K : PySem.W.Frag} {mg : Str → Option Value} {base : Heap}
theorem ok_lprog {f : Addr} {d : Ad} {fd : FuncData} (F : Fun K "_law_program" "_law_program" sLProg f fd) (FM : Mak P w K mg base (L2.CX P w) "Memory" d.me 4 ["self", "sizes"] (spMemInit K d.bc d.me)) (FG : Mak P w K mg base (L2.CX P w) "Program" d.pr 7 ["self", "memory", "commands"] (spProgI d K))
    (FC : Cal P w K mg base CX0 "_law_command" 3 ["_law_spec"] (spCommand d)) : FnOk P w K mg base CX0 9 f fd ["_law_sizes_so", "_law_specs_here"] (spProgram d) := by
  refine F.ok scLProg (fun vs H Q E h => ?_) (fun cdv A outer s H0 vs Q E hr h => ?_)
  · obtain ⟨p, q, ns, ss, rfl, _⟩ := h
    rfl
  · obtain ⟨p, q, ns, ss, rfl, hp, ok, hS, hg, h200, k⟩ := h
    refine ⟨_, (pss_one (ps_ret (pe_mak FG (hr.mono (by decide)) (by rfl) passL (pa_cons (pe_mak FM (hr.mono (by decide)) (by rfl) passL (pa_cons (pv 0) pa_nil)) (pa_cons (pe_lc (own := [("_law_spec", 2)]) (g := gName 2) (tt := tYes) (by rfl) scLProg.nd (pi_list (pv 1)) (blkOk_by (own := [("_law_spec", 2)]) (N := nLProg) (sc := defScope sLProg) (by decide +kernel)) (fun _ _ _ _ _ => (pg_name (i := 2) scLProg.nd rfl (Or.inl rfl))) (fun _ _ _ _ _ => pts_nil) (fun _ _ _ _ _ => (pe_cal FC (hr.mono (by decide)) (by rfl) pass0 (pa_cons (pv 2) pa_nil)))) pa_nil))))), ?_⟩
    refine ⟨_, rfl, fun m dm nm ndm ne => ⟨true, m, dm, p, ns, rfl, upd_same, SqL.of ?_, ne_of_none hp nm, fun w n hb => ?_, fun _ => ⟨fun _ t ht => ⟨rfl, ?_⟩, fun z => by cases z⟩⟩⟩
    · exact Same.mut (Same.new ndm) nm _ _ hp
    · rw [ok.bad] at hb
      cases hb
    have ntm : t ≠ m := fun z => by
      rw [z, upd_same] at ht
      cases ht
    have e1 : Same H0 (upd (upd (upd (upd H0 dm (.own m)) m (.ins d.me dm [])) t (.tup (ns.map V.int))) m (.ins d.me dm [("sizes", .ref t)])) := Same.mut ((Same.mut (Same.new ndm) nm).trans (Same.new ht)) nm
    have hM : MemAt d (upd (upd (upd (upd H0 dm (.own m)) m (.ins d.me dm [])) t (.tup (ns.map V.int))) m (.ins d.me dm [("sizes", .ref t)])) m ns := ⟨dm, t, upd_same, by rw [upd_ne ntm, upd_same]⟩
    generalize upd (upd (upd (upd H0 dm (.own m)) m (.ins d.me dm [])) t (.tup (ns.map V.int))) m (.ins d.me dm [("sizes", .ref t)]) = H1 at e1 hM
    obtain ⟨vs, hq, hA⟩ := hS.same e1
    refine ⟨_, rfl, q, rfl, ⟨_, SqL.of hq⟩, fun Dl hD => ?_⟩
    refine lc_list (K := K) (a := q) (xs := vs) (fun i H' => ∃ xs, H' Dl = some (.lst xs) ∧ All2 (CmdAt d H') xs (cmds (ss.take i)) ∧ Same H1 H') ⟨[], upd_same, .nil, Same.new hD⟩ (fun i H' _ h => SqL.of (by obtain ⟨_, _, _, e⟩ := h; exact e _ _ hq)) ?_ ?_
    · rintro i v H2 hi ⟨xs, hx, hC, e2⟩
      obtain ⟨s, hs, hv⟩ := hA.get hi
      have hil : i < ss.length := (List.getElem?_eq_some_iff.mp hs).1
      refine g_name ⟨rfl, lc_yes ?_⟩
      refine ⟨_, rfl, v, s, rfl, hv.ke (Ke.same e2), fun x H3 e3 hx3 => ?_⟩
      have hx4 := e3 _ _ hx
      have k5 := Ke.lst (o := .lst (xs ++ [.ref x])) hx4
      refine ⟨xs, hx4, small1000 (by rw [hC.1, cmds_len, List.length_take]; omega), xs ++ [.ref x], upd_same, ?_, Same.mut (e2.trans e3) hD⟩
      have e6 : cmds (ss.take (i + 1)) = cmds (ss.take i) ++ [s.cmd] := by
        rw [take_snoc hs]
        simp [cmds]
      rw [e6]
      exact All2.snoc (hC.mono fun v c q => q.ke ((Ke.same e3).trans k5)) (hx3.ke k5)
    · rintro H2 ⟨xs, hx, hC, e2⟩
      rw [hA.1, List.take_length] at hC
      refine fun x dx nx ndx ne => ⟨true, x, dx, m, ns, Dl, xs, cmds ss, rfl, upd_same, ?_, ?_, ?_, fun er z => ?_, fun _ H3 ks hP => ⟨rfl, k x H3 (fun b o hb => ?_) hP⟩⟩
      · exact hM.ke ((Ke.same e2).trans (Ke.same (Same.mut (Same.new ndx) nx)))
      · exact Same.mut (Same.new ndx) nx _ _ hx
      · exact hC.mono fun v c q => q.ke (Ke.same (Same.mut (Same.new ndx) nx))
      · rw [progErr_of (valid_of hg) (by rw [cmds_len]; exact h200)] at z
        cases z
      · have hb2 := (e1.trans e2) _ _ hb
        exact ks _ _ (Same.mut (Same.new ndx) nx _ _ hb2) (ne_of_none hb2 nx)
end
end Q

namespace Q
open PySem PySem.Spec PyProof.Rows L2 LamX
abbrev sLMade : Stmt := topS 35
theorem scLMade : FnScope ["_law_specs_here", "_law_size", "_law_time_so", "_law_some", "_law_spec", "_law_a"] ["_law_specs_here", "_law_size", "_law_time_so"] (defScope sLMade) := ⟨rfl, rfl, rfl, by decide +kernel, rfl, by decide +kernel, by decide +kernel⟩
abbrev nLMade : List Str := ["_law_specs_here", "_law_size", "_law_time_so", "_law_some", "_law_spec", "_law_a"]
section
variable {P : Program} {w : World} {K : PySem.W.Frag} {mg : Str → Option Value} {base : Heap}
structure TLMade (mg : Str → Option Value) : Prop where
  b_range : mg "range" = none
  b_tuple : mg "tuple" = none
  b_len : mg "len" = none
  b_max : mg "max" = none
theorem ok_lmade {f : Addr} {fd : FuncData} (F : Fun K "_law_made" "_law_made" sLMade f fd) (T : TLMade mg) : FnOk P w K mg base CX0 1 f fd ["_law_specs_here", "_law_size", "_law_time_so"] spLMade := by
  refine F.ok scLMade (fun vs H Q E h => ?_) (fun cdv A outer s H0 vs Q E hr h => ?_)
  · obtain ⟨q, ss, n, t, rfl, _⟩ := h
    rfl
  · obtain ⟨q, ss, n, t, rfl, ⟨vs, hq, hA⟩, hn, ht, h200, k⟩ := h
    refine ⟨_, (Evl.pss_cut (ps_set (i := 3) scLMade.nd rfl (Or.inr rfl) (pe_lc (own := [("_law_spec", 4)]) (g := gName 4) (by rfl) scLMade.nd (pi_list (pe_slice sl_list (pv 0) po_none (po_some (pv 2)))) (blkOk_by (own := [("_law_spec", 4)]) (N := nLMade) (sc := defScope sLMade) (by decide +kernel)) (fun _ _ _ _ _ => (pg_name (i := 4) scLMade.nd rfl (Or.inl rfl))) (fun _ _ _ _ _ => (pts_one (pt_cmpR op_eq (pe_ix (ix_tupK (K := K) rfl) (pv 4) pe_int (fun _ _ => rfl)) pe_str (nomark _)))) (fun _ _ _ _ _ => (pv 4))))
    (pss_one (ps_ret (pe_callTy call_tuple_of (by rfl) T.b_tuple (by decide +kernel) (pa_cons (pe_lc (own := [("_law_a", 5)]) (g := gName 5) (tt := tYes) (by rfl) scLMade.nd (pi_range1 (by rfl) T.b_range (pa_cons (pv 1) pa_nil)) (blkOk_by (own := [("_law_a", 5)]) (N := nLMade) (sc := defScope sLMade) (by decide +kernel)) (fun _ _ _ _ _ => (pg_name (i := 5) scLMade.nd rfl (Or.inr rfl))) (fun _ _ _ _ _ => pts_nil) (fun _ _ _ _ _ => (pe_callB (call_lenK (K := K) rfl) (by rfl) T.b_len (by decide +kernel) (pa_cons (pe_lc (own := [("_law_spec", 4)]) (g := gName 4) (by rfl) scLMade.nd (pi_listK (K := K) rfl (pv 3)) (blkOk_by (own := [("_law_spec", 4)]) (N := nLMade) (by show blkC _ (relS _ (defScope sLMade)) _ _ = true; decide +kernel)) (fun _ _ _ _ _ => (pg_name (i := 4) scLMade.nd rfl (Or.inl rfl))) (fun _ _ _ _ _ => (pts_one (pt_cmpR op_eq (pe_ix (ix_tupK (K := K) rfl) (pv 4) pe_int (fun _ _ => rfl)) (pv 5) (nomark _)))) (fun _ _ _ _ _ => (pv 4))) pa_nil)))) pa_nil))))), ?_⟩
    refine ⟨fun σ H => ∃ so, σ = [some (.ref q), some (.int n), some (.int t), some (.ref so), none, none] ∧ Specs H so ((ss.take t).filter (isK .st)) ∧ Same H0 H, ?_, ?_⟩
    · refine ⟨_, rfl, _, rfl, t, rfl, q, vs, rfl, SqL.of hq, fun u hu => ?_⟩
      rw [cut_to]
      have e1 := Same.new (o := .lst (vs.take t)) hu
      have hA1 : All2 (SpecAt (upd H0 u (.lst (vs.take t)))) (vs.take t) (ss.take t) := (hA.take t).mono fun v c q => q.ke (Ke.same e1)
      refine ⟨u, rfl, ⟨_, SqL.of upd_same⟩, fun Dl hD => ?_⟩
      refine lc_list (K := K) (a := u) (xs := vs.take t) (fun i H' => Specs H' Dl (((ss.take t).take i).filter (isK .st)) ∧ Same (upd H0 u (.lst (vs.take t))) H') ⟨⟨[], upd_same, .nil⟩, Same.new hD⟩ (fun i H' _ h => SqL.of (h.2 _ _ upd_same)) ?_ ?_
      · rintro i v H2 hi ⟨⟨xs, hx, hC⟩, e2⟩
        obtain ⟨s, hs, hv⟩ := hA1.get hi
        obtain ⟨r, rfl, hr⟩ := hv.ke (Ke.same e2)
        refine g_name ⟨rfl, ?_⟩
        refine ⟨_, rfl, r, scV s, 0, _, rfl, rfl, SqT.of hr, at0, rfl, _, rfl, ?_⟩
        have k5 := Ke.lst (o := .lst (xs ++ [.ref r])) hx
        refine ite_kd .st (fun ek => ?_) (fun ek => ?_)
        · refine ⟨_, rfl, xs, hx, small1000 ?_, ⟨xs ++ [.ref r], upd_same, ?_⟩, Same.mut e2 hD⟩
          · rw [hC.1]
            have q1 := List.length_filter_le (isK .st) ((ss.take t).take i)
            have q2 := List.length_take_le i (ss.take t)
            have q3 := (List.getElem?_eq_some_iff.mp hs).1
            rw [List.length_take] at q3
            omega
          · rw [filter_snoc hs, if_pos (show isK .st s = true from decide_eq_true ek)]
            exact All2.snoc (hC.mono fun v c q => q.ke k5) ⟨r, rfl, k5 _ _ hr (fun _ z => by cases z) (fun _ z => by cases z)⟩
        · refine ⟨⟨xs, hx, ?_⟩, e2⟩
          rw [filter_snoc hs, if_neg (show ¬ isK .st s = true from fun z => ek (of_decide_eq_true z)), List.append_nil]
          exact hC
      · rintro H2 ⟨hS, e2⟩
        rw [hA1.1, List.take_length] at hS
        exact g_name ⟨Dl, rfl, hS, e1.trans e2⟩
    rintro σ H1 ⟨so, rfl, ⟨xs, hx, hC⟩, e1⟩
    refine ⟨_, rfl, (n : Int), rfl, by omega, by omega, fun Dl hD => ?_⟩
    refine lc_range (lo := 0) (n := ((n : Int)).toNat) (fun i H' => H' Dl = some (.lst (((List.range i).map fun (a : Nat) => ((((ss.take t).filter (isK .st)).filter fun s => decide (s.a = (a : Int))).length : Int)).map V.int)) ∧ Same H1 H') ⟨upd_same, Same.new hD⟩ ?_ ?_
    · rintro a H2 ha ⟨hDl, e2⟩
      refine ⟨rfl, lc_yes ?_⟩
      refine ⟨_, rfl, so, rfl, ⟨_, SqL.of (e2 _ _ hx)⟩, fun Di hDi => ?_⟩
      refine lc_list (K := K) (a := so) (xs := xs) (fun i H' => Specs H' Di ((((ss.take t).filter (isK .st)).take i).filter fun s => decide (s.a = (a : Int))) ∧ Same H2 H') ⟨⟨[], upd_same, .nil⟩, Same.new hDi⟩ (fun i H' _ h => SqL.of (h.2 _ _ (e2 _ _ hx))) ?_ ?_
      · rintro i v H3 hi ⟨⟨ys, hy, hE⟩, e3⟩
        obtain ⟨s, hs, hv⟩ := hC.get hi
        obtain ⟨r, rfl, hr⟩ := (hv.ke (Ke.same e2)).ke (Ke.same e3)
        refine g_name ⟨rfl, ?_⟩
        refine ⟨_, rfl, r, scV s, 1, _, rfl, rfl, SqT.of hr, at1, _, rfl, rfl, _, rfl, ?_⟩
        have k5 := Ke.lst (o := .lst (ys ++ [.ref r])) hy
        have ez : ((0 : Int) + (a : Int)) = (a : Int) := Int.zero_add _
        refine ite2 (fun z => ?_) (fun z => ?_)
        · have ek : s.a = (a : Int) := by
            have z2 := of_decide_eq_true z
            injection z2 with z3
            rw [z3, ez]
          refine ⟨_, rfl, ys, hy, small1000 ?_, ⟨ys ++ [.ref r], upd_same, ?_⟩, Same.mut e3 hDi⟩
          · rw [hE.1]
            have q1 := List.length_filter_le (fun s : Sc => decide (s.a = (a : Int))) (((ss.take t).filter (isK .st)).take i)
            have q2 := List.length_take_le i ((ss.take t).filter (isK .st))
            have q3 := (List.getElem?_eq_some_iff.mp hs).1
            have q4 := List.length_filter_le (isK .st) (ss.take t)
            rw [List.length_take] at q4
            omega
          · rw [filter_snoc hs, if_pos (decide_eq_true ek)]
            exact All2.snoc (hE.mono fun v c q => q.ke k5) ⟨r, rfl, k5 _ _ hr (fun _ z => by cases z) (fun _ z => by cases z)⟩
        · have ek : ¬ s.a = (a : Int) := fun q => z (decide_eq_true (by rw [q, ez]))
          refine ⟨⟨ys, hy, ?_⟩, e3⟩
          rw [filter_snoc hs, if_neg (fun q => ek (of_decide_eq_true q)), List.append_nil]
          exact hE
      · rintro H3 ⟨⟨ys, hy, hE⟩, e3⟩
        rw [hC.1, List.take_length] at hE
        have hDl3 := e3 _ _ hDl
        refine ⟨Di, ys, rfl, .inl (SqL.of hy), _, hDl3, small1000 (by simp; omega), ?_, Same.mut (e2.trans e3) hD⟩
        rw [upd_same, List.range_succ, List.map_append, List.map_append, hE.1]
        rfl
    · rintro H2 ⟨hDl, e2⟩
      refine ⟨Dl, _, rfl, .inl ⟨SqL.of hDl, fun x hx2 => k x _ ((e1.trans e2).trans (Same.new hx2)) ?_⟩⟩
      rw [upd_same]
      rfl
end
abbrev sLSure : Stmt := topS 36
theorem scLSure : FnScope ["_law_specs_here", "_law_size", "_law_time_so", "_law_result", "_law_at", "_law_fences", "_law_spec", "_law_a"] ["_law_specs_here", "_law_size", "_law_time_so"] (defScope sLSure) := ⟨rfl, rfl, rfl, by decide +kernel, rfl, by decide +kernel, by decide +kernel⟩
abbrev nLSure : List Str := ["_law_specs_here", "_law_size", "_law_time_so", "_law_result", "_law_at", "_law_fences", "_law_spec", "_law_a"]
theorem fold_len {ss : List Sc} {n : Nat} {c : Nat → Bool} : ∀ t, (sureFold ss n c t).length = n
  | 0 => by simp [sureFold]
  | t + 1 => by
    rw [sureFold_succ]
    have ih := fold_len (ss := ss) (n := n) (c := c) t
    unfold sureStep
    split
    · split
      · rw [List.length_set, ih]
      · exact ih
    · exact ih
section
variable {P : Program} {w : World} {K : PySem.W.Frag} {mg : Str → Option Value} {base : Heap}
theorem ok_lsure {f : Addr} {fd : FuncData} (F : Fun K "_law_sure" "_law_sure" sLSure f fd) (T : TLMade mg) (FM : Cal P w K mg base CX0 "_law_made" 1 ["_law_specs_here", "_law_size", "_law_time_so"] spLMade) : FnOk P w K mg base CX0 3 f fd ["_law_specs_here", "_law_size", "_law_time_so"] spLSure := by
  refine F.ok scLSure (fun vs H Q E h => ?_) (fun cdv A outer s H0 vs Q E hr h => ?_)
  · obtain ⟨q, ss, n, t, rfl, _⟩ := h
    rfl
  · obtain ⟨q, ss, n, t, rfl, ⟨vs, hq, hA⟩, hn, ht, h200, hg, k⟩ := h
    refine ⟨_, (Evl.pss_cut (ps_set (i := 3) scLSure.nd rfl (Or.inl rfl) (pe_op op_rep (pe_lst (pa_cons pe_int pa_nil)) (pv 1)))
    (Evl.pss_cut (ps_for PassesOwn.never rfl (pi_range1 (by rfl) T.b_range (pa_cons (pv 2) pa_nil)) (pg_name (i := 4) scLSure.nd rfl (Or.inl rfl)) (Evl.pss_cut (ps_setLc (i := 5) (own := [("_law_spec", 6)]) (g := gName 6) (by rfl) scLSure.nd rfl rfl (sw_true rfl rfl rfl (by decide +kernel)) (pi_list (pe_slice sl_list (pv 0) (po_some (pv 4)) (po_some (pv 2)))) (blkOk_by (own := [("_law_spec", 6)]) (N := nLSure) (sc := defScope sLSure) (by decide +kernel)) (fun _ _ _ _ _ => (pg_name (i := 6) scLSure.nd rfl (Or.inl rfl))) (fun _ _ _ _ _ => (pts_one (pt_cmpR op_eq (pe_ix (ix_tupK (K := K) rfl) (pv 6) pe_int (fun _ _ => rfl)) pe_str (nomark _)))) (fun _ _ _ _ _ => (pv 6)))
    (pss_one (ps_if (PW.pt (pw_and (pt_cmpR op_eq (pe_ix ix_tup (pe_ix ix_list (pv 0) (pv 4) (fun _ _ => rfl)) pe_int (fun _ _ => rfl)) pe_str (nomark _)) (pw_and1 (pt_cmpR (op_neD hr.units) (pv 5) (pe_lst pa_nil) (nomark _))))) (Evl.pss_cut (ps_set (i := 7) scLSure.nd rfl (Or.inl rfl) (pe_ix ix_tup (pe_ix ix_list (pv 0) (pv 4) (fun _ _ => rfl)) pe_int (fun _ _ => rfl)))
    (pss_one (ps_asg (pe_callB (call_max2 rfl) (by rfl) T.b_max (by decide +kernel) (pa_cons (pe_ix ix_list (pv 3) (pv 7) (fun _ _ => rfl)) (pa_cons (pe_ix ix_tup (pe_cal FM (hr.mono (by decide)) (by rfl) pass0 (pa_cons (pv 0) (pa_cons (pv 1) (pa_cons (pv 4) pa_nil)))) (pv 7) (fun _ _ => rfl)) pa_nil))) (pg_sub (pv 3) (pv 7) set_list)))) pss_nil))))
    (pss_one (ps_ret (pe_callTy call_tuple_of (by rfl) T.b_tuple (by decide +kernel) (pa_cons (pv 3) pa_nil)))))), ?_⟩
    refine ⟨fun σ H => ∃ re, σ = [some (.ref q), some (.int n), some (.int t), some (.ref re), none, none, none, none] ∧ H re = some (.lst ((List.replicate n (0 : Int)).map V.int)) ∧ H0 re = none ∧ Same H0 H, ?_, ?_⟩
    · refine ⟨by show 1 ≤ sizeLine; decide, fun l hl => ?_⟩
      have e1 := Same.new (H := H0) (o := .lst [V.int 0]) hl
      refine ⟨_, rfl, l, (n : Int), _, rfl, rfl, upd_same, by omega, by omega, ?_, fun re hre => g_name ⟨re, rfl, ?_, Same.free e1 hre, e1.trans (Same.new hre)⟩⟩
      · exact Nat.le_of_lt (small1000 (by simp; omega))
      · have e : (List.replicate ((n : Int)).toNat [V.int 0]).flatten = (List.replicate n (0 : Int)).map V.int := by simp
        rw [← e]
        exact upd_same
    rintro σ H ⟨re, rfl, hre, h0, sm⟩
    refine ⟨fun σ H => (∃ v4 v5 v7 : Option V, σ = [some (.ref q), some (.int n), some (.int t), some (.ref re), v4, v5, none, v7]) ∧ H re = some (.lst ((lawSure ss n t).map V.int)) ∧ Same H0 H, ?_, ?_⟩
    · refine ⟨_, rfl, (t : Int), rfl, by omega, by omega, for_range (lo := 0) (n := ((t : Int)).toNat) (fun i σ H => (∃ v4 v5 v7 : Option V, σ = [some (.ref q), some (.int n), some (.int t), some (.ref re), v4, v5, none, v7]) ∧ H re = some (.lst ((sureFold ss n (fun i => fenceIn ss i t) i).map V.int)) ∧ Same H0 H) ⟨⟨_, _, _, rfl⟩, hre, sm⟩ ?_ (fun σ H h => h)⟩
      clear hre sm
      rintro i σ H hi ⟨⟨v4, v5, v7, rfl⟩, hre, sm⟩
      have hit : i < t := by omega
      have ez : ((0 : Int) + (i : Int)) = (i : Int) := Int.zero_add _
      rw [ez]
      refine g_name ?_
      -- the fences
      refine ⟨fun σ H => ∃ fe, (∃ v7 : Option V, σ = [some (.ref q), some (.int n), some (.int t), some (.ref re), some (.int (i : Int)), some (.ref fe), none, v7]) ∧ Specs H fe (((ss.drop i).take (t - i)).filter (isK .fe)) ∧ H re = some (.lst ((sureFold ss n (fun i => fenceIn ss i t) i).map V.int)) ∧ Same H0 H, ?_, ?_⟩
      · have hq1 := sm _ _ hq
        refine ⟨_, rfl, _, rfl, (i : Int), rfl, _, rfl, (t : Int), rfl, q, vs, rfl, SqL.of hq1, fun u hu => ?_⟩
        rw [cut_from]
        have e1 := Same.new (o := .lst ((vs.drop i).take (t - i))) hu
        have hA1 : All2 (SpecAt (upd H u (.lst ((vs.drop i).take (t - i))))) ((vs.drop i).take (t - i)) ((ss.drop i).take (t - i)) := ((hA.drop i).take (t - i)).mono fun v c q => q.ke (Ke.same (sm.trans e1))
        refine ⟨u, rfl, ⟨_, SqL.of upd_same⟩, fun Dl hD => ?_⟩
        refine lc_list (K := K) (a := u) (xs := (vs.drop i).take (t - i)) (fun j H' => Specs H' Dl ((((ss.drop i).take (t - i)).take j).filter (isK .fe)) ∧ Same (upd H u (.lst ((vs.drop i).take (t - i)))) H') ⟨⟨[], upd_same, .nil⟩, Same.new hD⟩ (fun i H' _ h => SqL.of (h.2 _ _ upd_same)) ?_ ?_
        · rintro j v H2 hj ⟨⟨xs, hx, hC⟩, e2⟩
          obtain ⟨s, hs, hv⟩ := hA1.get hj
          obtain ⟨r, rfl, hr⟩ := hv.ke (Ke.same e2)
          refine g_name ⟨rfl, ?_⟩
          refine ⟨_, rfl, r, scV s, 0, _, rfl, rfl, SqT.of hr, at0, rfl, _, rfl, ?_⟩
          have k5 := Ke.lst (o := .lst (xs ++ [.ref r])) hx
          refine ite_kd .fe (fun ek => ?_) (fun ek => ?_)
          · refine ⟨_, rfl, xs, hx, small1000 ?_, ⟨xs ++ [.ref r], upd_same, ?_⟩, Same.mut e2 hD⟩
            · rw [hC.1]
              have q1 := List.length_filter_le (isK .fe) (((ss.drop i).take (t - i)).take j)
              have q2 := List.length_take_le j ((ss.drop i).take (t - i))
              have q3 := (List.getElem?_eq_some_iff.mp hs).1
              rw [List.length_take, List.length_drop] at q3
              omega
            · rw [filter_snoc hs, if_pos (show isK .fe s = true from decide_eq_true ek)]
              exact All2.snoc (hC.mono fun v c q => q.ke k5) ⟨r, rfl, k5 _ _ hr (fun _ z => by cases z) (fun _ z => by cases z)⟩
          · refine ⟨⟨xs, hx, ?_⟩, e2⟩
            rw [filter_snoc hs, if_neg (show ¬ isK .fe s = true from fun z => ek (of_decide_eq_true z)), List.append_nil]
            exact hC
        · rintro H2 ⟨hS, e2⟩
          rw [hA1.1, List.take_length] at hS
          exact g_name ⟨Dl, ⟨_, rfl⟩, hS, (e1.trans e2) _ _ hre, sm.trans (e1.trans e2)⟩
      clear hre sm v4 v5 v7
      rintro σ H ⟨fe, ⟨v7, rfl⟩, ⟨fs, hfe, hF⟩, hre, sm⟩
      -- the flush
      have hi2 : i < ss.length := by omega
      have hs : ss[i]? = some ss[i] := by simp [hi2]
      generalize ss[i] = s at hs
      obtain ⟨v, hv, hsv⟩ := hA.get' hs
      obtain ⟨r, rfl, hr⟩ := hsv.ke (Ke.same sm)
      have hgs := hg s (List.mem_of_getElem? hs)
      have hq1 := sm _ _ hq
      have step : sureFold ss n (fun i => fenceIn ss i t) (i + 1) = if isK .fl s && fenceIn ss i t then (sureFold ss n (fun i => fenceIn ss i t) i).set s.a.toNat (max ((sureFold ss n (fun i => fenceIn ss i t) i).getD s.a.toNat 0) ((lawMade ss n i).getD s.a.toNat 0)) else sureFold ss n (fun i => fenceIn ss i t) i := by
        rw [sureFold_succ]
        unfold sureStep
        rw [hs]
      have hfl := fold_len (ss := ss) (n := n) (c := fun i => fenceIn ss i t) i
      have cond : fenceIn ss i t = !(((ss.drop i).take (t - i)).filter (isK .fe)).isEmpty := rfl
      refine ⟨_, rfl, _, rfl, q, vs, (i : Int), _, rfl, rfl, SqL.of hq1, atI_nat hv, r, scV s, 0, _, rfl, rfl, SqT.of hr, at0, rfl, _, rfl, ?_⟩
      refine ite_kd .fl (fun ek => ?_) (fun ek => ?_)
      · have hk : isK .fl s = true := decide_eq_true ek
        refine ⟨_, rfl, Nat.zero_le _, fun e he => ?_⟩
        have e1 := Same.new (o := .lst []) he
        refine ⟨_, _, .lst (SqL.of (e1 _ _ hfe)) (dpAll_specs (hF.mono fun v c q => q.ke (Ke.same e1))), .lst (SqL.of upd_same) .nil, shaped_specs _, by decide +kernel, _, rfl, ?_⟩
        rw [eqv_empty, ← cond]
        cases hc : fenceIn ss i t with
        | false =>
          refine iteF ⟨⟨_, _, _, rfl⟩, ?_, sm.trans e1⟩
          rw [step, hc, Bool.and_false]
          exact e1 _ _ hre
        | true =>
          refine iteT ?_
          refine ⟨fun σ H => σ = [some (.ref q), some (.int n), some (.int t), some (.ref re), some (.int (i : Int)), some (.ref fe), none, some (.int s.a)] ∧ H re = some (.lst ((sureFold ss n (fun i => fenceIn ss i t) i).map V.int)) ∧ Same H0 H, ?_, ?_⟩
          · exact ⟨_, rfl, _, rfl, q, vs, (i : Int), _, rfl, rfl, SqL.of (e1 _ _ hq1), atI_nat hv, r, scV s, 1, _, rfl, rfl, SqT.of (e1 _ _ hr), at1, g_name ⟨rfl, e1 _ _ hre, sm.trans e1⟩⟩
          clear hre sm hr hq1 e1 hfe hF
          rintro σ H ⟨rfl, hre, sm⟩
          obtain ⟨a0, a1⟩ := hgs
          have ea : ((s.a.toNat : Nat) : Int) = s.a := Int.toNat_of_nonneg a0
          have hj : s.a.toNat < n := by omega
          have g1 := atI_nat (sizes_at (ns := sureFold ss n (fun i => fenceIn ss i t) i) (j := s.a.toNat) (by rw [hfl]; exact hj))
          have g2 := atI_nat (sizes_at (ns := lawMade ss n i) (j := s.a.toNat) (by rw [lawMade_len]; exact hj))
          have g3 : ixN ((sureFold ss n (fun i => fenceIn ss i t) i).map V.int).length ((s.a.toNat : Nat) : Int) = some s.a.toNat := Evl.ixN_nat (by rw [List.length_map, hfl]; exact hj)
          rw [ea] at g1 g2 g3
          refine ⟨_, rfl, _, rfl, re, _, s.a, _, rfl, rfl, SqL.of hre, g1, _, rfl, _, rfl, _, rfl, q, ss, n, i, rfl, ⟨vs, sm _ _ hq, hA.mono fun v c q => q.ke (Ke.same sm)⟩, hn, by omega, h200, fun x H2 e2 hx => ?_⟩
          refine ⟨_, rfl, x, _, s.a, _, rfl, rfl, SqT.of hx, g2, _, _, rfl, _, rfl, _, rfl, re, _, s.a, s.a.toNat, rfl, rfl, e2 _ _ hre, g3, ⟨_, _, _, rfl⟩, ?_, Same.mut (sm.trans e2) h0⟩
          rw [upd_same, ← List.map_set, max_if, step, hk, hc]
          rfl
      · have hk : isK .fl s = false := decide_eq_false ek
        refine iteF ⟨⟨_, _, _, rfl⟩, ?_, sm⟩
        rw [step, hk, Bool.false_and]
        exact hre
    clear hre sm
    rintro σ H ⟨⟨v4, v5, v7, rfl⟩, hre, sm⟩
    refine ⟨_, rfl, re, _, rfl, .inl ⟨SqL.of hre, fun x hx => k x _ (sm.trans (Same.new hx)) upd_same⟩⟩
end
end Q

namespace Q
open PySem PySem.Spec PyProof.Rows L2 LamX
abbrev sRef : Stmt := topS 37
theorem scRef : FnScope ["_law_call", "e"] ["_law_call"] (defScope sRef) := ⟨rfl, rfl, rfl, by decide +kernel, rfl, by decide +kernel, by decide +kernel⟩
structure TRefd (K : PySem.W.Frag) (mg : Str → Option Value) (d : Ad) (CS : Addr) : Prop where
  xf : XfC K d.nt
  nT : PySem.W.findIn K (.ref d.nt) "time" = some none
  gT : mg "NoTime" = some (.ref d.nt)
  gS : mg "StoreError" = some (.ref CS)
  eT : PySem.W.exmOne K (.ref d.nt) (.ref d.nt) = some true
theorem gives_ref {X : Cx} {g : Addr} {cdg : Value} {q : Str} {d : Ad} {CS : Addr} (T : TRefd X.K X.mg d CS) : Gives X ["_law_call", "e"] "_law_refused" (defScope sRef) g cdg (defBody sRef) "_law_call" q (TRef d) := by
  intro f c' s H R tl act hc h
  refine ⟨_, pss_cons (ps_try_cl (Wout := fun _ _ _ _ => False) rfl rfl scRef.nd L2.takes0
    (fun W pn xe tk _ => pss_one (ps_expr (act W pn xe _ _ tk)))
    (.named (i := 1) (c := .ref d.nt) rfl rfl ⟨rfl, rfl, .inl T.gT⟩ (fun a oe cls dd pn hz hf => pss_one (ps_ret (pe_xf T.xf T.nT hz hf (pv 1))))
    (.bare (c := .ref CS) ⟨rfl, rfl, .inl T.gS⟩ (fun a oe cls dd pn hz hf => pss_one ps_never) .nil))) (pss_one (ps_ret pe_str)), ?_⟩
  refine ⟨rfl, hc, h _ _ (fun x t H' hd kR => ?_) (fun v H1 kR => kR)⟩
  refine ⟨true, T.eT, fun _ a ha => ?_, fun z => by cases z⟩
  exact ⟨_, rfl, rfl, rfl, x, _, .int t, rfl, hd, rfl, kR⟩
abbrev sLong : Stmt := topS 38
theorem scLong : FnScope ["_law_source_here", "_law_sizes_so", "_law_specs_here", "_law_here", "_law_time_so"] ["_law_source_here"] (defScope sLong) := ⟨rfl, rfl, rfl, by decide +kernel, rfl, by decide +kernel, by decide +kernel⟩
abbrev nLong : List Str := ["_law_source_here", "_law_sizes_so", "_law_specs_here", "_law_here", "_law_time_so"]
section
variable {P : Program} {w : World} {K : PySem.W.Frag} {mg : Str → Option Value} {base : Heap}
theorem ok_long {f c Pt CS gOa : Addr} {oc kV doc pm ct : Value} {od an : Option Addr} {osl : Array (Option Value)} {fdO : FuncData} {d : Ad} {T : List (Addr × Str)} (lk : K.lookup f = some ⟨oc, od, .func (PySem.W.fnOf "_law_long_right" "_law_long_right" (defArgs sLong) (defBody sLong) (defScope sLong) .none kV doc pm an (.ref c) ct), osl⟩) (hcd : PySem.W.codeIn K (.ref c) "_law_long_right" = true)
    (TB : TabB base mg c Pt) (hmT : (Pt, (("_law_long_right" : Str) ++ ".<locals>.") ++ "<lambda>") ∈ T) (hu : ∀ p ∈ T, p.1 = Pt → p.2 = (("_law_long_right" : Str) ++ ".<locals>.") ++ "<lambda>") (TL : TLMade mg) (FD : Cal P w K mg base CX0 "_law_draw" 1 ["_law_source_here", "_law_many"] spDraw) (FP : Cal P w K mg base CX0 "_law_pick" 2 ["_law_source_here", "_law_items"] (spPick K))
    (FZ : Cal P w K mg base CX0 "_law_sizes" 2 ["_law_source_here", "_law_most"] spSizes) (FS : Cal P w K mg base CX0 "_law_specs" 4 ["_law_source_here", "_law_sizes_so", "_law_least", "_law_most"] spSpecs) (FG : Cal P w K mg base CX0 "_law_program" 9 ["_law_sizes_so", "_law_specs_here"] (spProgram d))
    (FM : Cal P w K mg base CX0 "_law_made" 1 ["_law_specs_here", "_law_size", "_law_time_so"] spLMade) (FU : Cal P w K mg base CX0 "_law_sure" 3 ["_law_specs_here", "_law_size", "_law_time_so"] spLSure)
    (GM : Cal P w K mg base (L2.CX P w) "made" 4 ["program", "time"] (spAt d Pg.d)) (GU : Cal P w K mg base (L2.CX P w) "sure" 4 ["program", "time"] (spAt d Pg.s)) (FO : Fun K "_law_refused" "_law_refused" sRef gOa fdO) (gO : mg "_law_refused" = some (.ref gOa)) (bO : Binds K fdO ["_law_call"] []) (TO : TRefd K mg d CS) :
    FnOk P w K mg base CX0 11 f (PySem.W.fnOf "_law_long_right" "_law_long_right" (defArgs sLong) (defBody sLong) (defScope sLong) .none kV doc pm an (.ref c) ct) ["_law_source_here"] (spLong T) := by
  obtain ⟨ocO, odO, kVO, docO, pmO, anO, cdvO, ctO, oslO, rfl, lkO, hcO⟩ := FO.ex
  refine fn_of lk hcd scLong (fun vs H Q E h => ?_) (fun A outer s H0 vs Q E hr h => ?_)
  · obtain ⟨S, rfl, _⟩ := h
    rfl
  · obtain ⟨S, rfl, hs, tb, k⟩ := h
    refine (fun (x : ∃ t, PSs (cxOf CX0 P w K mg base nLong "_law_long_right" (defScope sLong) f (.ref c) A outer s H0 E).nox (defBody sLong) t ∧ t { nx := fun _ H' => Q .non H', rt := Q } (start nLong [.ref S]) H0) => by
      obtain ⟨t, a, b⟩ := x
      exact ⟨t, a.nox, b⟩) ?_
    refine ⟨_, (Evl.pss_cut (ps_set (i := 1) scLong.nd rfl (Or.inl rfl) (pe_cal FZ (hr.mono (by decide)) (by rfl) pass0 (pa_cons (pv 0) (pa_cons pe_int pa_nil))))
    (Evl.pss_cut (ps_set (i := 2) scLong.nd rfl (Or.inr rfl) (pe_cal FS (hr.mono (by decide)) (by rfl) pass0 (pa_cons (pv 0) (pa_cons (pv 1) (pa_cons (pe_cal FP (hr.mono (by decide)) (by rfl) pass0 (pa_cons (pv 0) (pa_cons (pe_lst (pa_cons pe_int (pa_cons pe_int pa_nil))) pa_nil))) (pa_cons pe_int pa_nil))))))
    (Evl.pss_cut (ps_set (i := 3) scLong.nd rfl (Or.inr rfl) (pe_cal FG (hr.mono (by decide)) (by rfl) pass0 (pa_cons (pv 1) (pa_cons (pv 2) pa_nil))))
    (Evl.pss_cut (ps_for PassesOwn.never rfl (pi_list (pe_lst (pa_cons (pe_callB call_len_seq (by rfl) TL.b_len (by decide +kernel) (pa_cons (pv 2) pa_nil)) (pa_cons (pe_cal FD (hr.mono (by decide)) (by rfl) pass0 (pa_cons (pv 0) (pa_cons (pe_op op_add (pe_callB call_len_seq (by rfl) TL.b_len (by decide +kernel) (pa_cons (pv 2) pa_nil)) pe_int) pa_nil))) (pa_cons (pe_op op_add pe_int (pe_cal FD (hr.mono (by decide)) (by rfl) pass0 (pa_cons (pv 0) (pa_cons (pe_op op_sub (pe_callB call_len_seq (by rfl) TL.b_len (by decide +kernel) (pa_cons (pv 2) pa_nil)) pe_int) pa_nil)))) pa_nil))))) (pg_name (i := 4) scLong.nd rfl (Or.inl rfl)) (Evl.pss_cut (ps_if (pt_cmpR (op_neD hr.units) (pe_cal GM (hr.mono (by decide)) (by rfl) passL (pa_cons (pv 3) (pa_cons (pv 4) pa_nil))) (pe_cal FM (hr.mono (by decide)) (by rfl) pass0 (pa_cons (pv 2) (pa_cons (pe_callB call_len_seq (by rfl) TL.b_len (by decide +kernel) (pa_cons (pv 1) pa_nil)) (pa_cons (pv 4) pa_nil)))) (nomark _)) (pss_one (ps_ret pe_bl)) pss_nil)
    (pss_one (ps_if (pt_cmpR (op_neD hr.units) (pe_cal GU (hr.mono (by decide)) (by rfl) passL (pa_cons (pv 3) (pa_cons (pv 4) pa_nil))) (pe_cal FU (hr.mono (by decide)) (by rfl) pass0 (pa_cons (pv 2) (pa_cons (pe_callB call_len_seq (by rfl) TL.b_len (by decide +kernel) (pa_cons (pv 1) pa_nil)) (pa_cons (pv 4) pa_nil)))) (nomark _)) (pss_one (ps_ret pe_bl)) pss_nil))))
    (pss_one (ps_ret (pe_cmpR op_eq (pe_lamS (T := T) rfl gO FO.kp lkO hcO bO scRef rfl (Or.inl rfl) (gives_ref TO) TB rfl hmT hu (k := 5) (hr.mono (by decide)) (lamS_by (sc := defScope sLong) (by decide +kernel)) rfl (fun _ _ _ _ _ => rfl)
      (t := fun E => tCall (spAt d Pg.s) [] E (tCons (tVar 3) (tCons (tOp (rI0 fun i j => .int (i + j)) (tCB (rLenK K) (tCons (tVar 2) tNil)) (tC (.int 1))) tNil)))
      (fun E A outer s H f c' hr2 => pe_cal GU (hr2.mono (by decide)) (by rfl) (passes_call (takes_of rfl rfl rfl rfl) (fun _ _ _ _ h => h)) (pa_cons (pv 3) (pa_cons (pe_op op_add (pe_callB (call_lenK (K := K) rfl) (by rfl) TL.b_len (by decide +kernel) (pa_cons (pv 2) pa_nil)) pe_int) pa_nil)))) (pe_op op_add (pe_callB call_len_seq (by rfl) TL.b_len (by decide +kernel) (pa_cons (pv 2) pa_nil)) pe_int) (nomark _)))))))), ?_⟩
    -- the sizes
    refine ⟨fun σ H => ∃ sz ns, σ = [some (.ref S), some (.ref sz), none, none, none] ∧ HasSrc S H ∧ Tabs T H ∧ H sz = some (.lst (ns.map V.int)) ∧ sz ≠ S ∧ SizesOk ns, ?_, ?_⟩
    · refine ⟨_, rfl, S, 6, rfl, hs, by decide, by decide, fun sz ns H1 hs1 ks1 hz n1 _ ok _ => g_name ⟨sz, ns, rfl, hs1, Tabs.ks tb hs ks1, hz, n1, ok⟩⟩
    clear hs tb
    rintro σ H ⟨sz, ns, rfl, hs, tb, hz, n1, ok⟩
    -- the specs
    refine ⟨fun σ H => ∃ sp ss, σ = [some (.ref S), some (.ref sz), some (.ref sp), none, none] ∧ HasSrc S H ∧ Tabs T H ∧ H sz = some (.lst (ns.map V.int)) ∧ Specs H sp ss ∧ sp ≠ S ∧ (∀ s ∈ ss, Good ns s) ∧ 100 ≤ ss.length ∧ ss.length ≤ 200, ?_, ?_⟩
    · refine ⟨_, rfl, _, rfl, _, rfl, (by show 2 ≤ sizeLine; decide), fun p hp => ?_⟩
      have e1 := Same.new (o := .lst [V.int 100, V.int 200]) hp
      refine ⟨S, p, _, rfl, Same.src e1 hs, upd_same, src_ne (o := .lst []) hs hp, by decide, by decide, fun x H2 hx hs2 ks2 => ?_⟩
      obtain ⟨lo, rfl, h1, h2⟩ : ∃ lo : Int, x = .int lo ∧ 100 ≤ lo ∧ lo ≤ 200 := by
        simp only [List.mem_cons, List.not_mem_nil, or_false] at hx
        rcases hx with rfl | rfl
        · exact ⟨100, rfl, by decide, by decide⟩
        · exact ⟨200, rfl, by decide, by decide⟩
      have hz2 := ks2 _ _ (e1 _ _ hz) n1
      have tb2 := Tabs.ks (tb.ext e1) (Same.src e1 hs) ks2
      refine ⟨S, sz, ns, lo, 200, rfl, hs2, hz2, n1, ok, by omega, by omega, by omega, fun sp ss H3 hs3 ks3 hS n2 _ hg l1 l2 => g_name ⟨sp, ss, rfl, hs3, Tabs.ks tb2 hs2 ks3, ks3 _ _ hz2 n1, hS, n2, hg, by omega, by omega⟩⟩
    clear hs tb hz
    rintro σ H ⟨sp, ss, rfl, hs, tb, hz, hS, n2, hg, l1, l2⟩
    -- the program
    refine ⟨fun σ H => ∃ pg, σ = [some (.ref S), some (.ref sz), some (.ref sp), some (.ref pg), none] ∧ HasSrc S H ∧ Tabs T H ∧ Has d H sz sp pg ns ss, ?_, ?_⟩
    · refine ⟨_, rfl, _, rfl, sz, sp, ns, ss, rfl, hz, ok, hS, hg, l2, fun pg H1 e1 hP => g_name ⟨pg, rfl, Same.src e1 hs, tb.ext e1, ok, e1 _ _ hz, hS.same e1, hP, hg⟩⟩
    clear hs tb hz hS hg
    rintro σ H ⟨pg, rfl, hs, tb, hh⟩
    -- three times
    refine ⟨fun σ H => (∃ v : Option V, σ = [some (.ref S), some (.ref sz), some (.ref sp), some (.ref pg), v]) ∧ Tabs T H ∧ Has d H sz sp pg ns ss, ?_, ?_⟩
    · obtain ⟨vs, hv, hA⟩ := hh.sp
      refine ⟨_, rfl, sp, vs, rfl, .inl (SqL.of hv), _, rfl, _, rfl, sp, vs, rfl, .inl (SqL.of hv), _, _, rfl, rfl, S, _, rfl, hs, by omega, by rw [hA.1]; omega, fun t2 H1 t20 t21 hs1 ks1 => ?_⟩
      have hv1 := ks1 _ _ hv n2
      have tb1 := Tabs.ks tb hs ks1
      have hh1 := hh.ks hs ks1 n1 n2
      refine ⟨_, rfl, _, rfl, sp, vs, rfl, .inl (SqL.of hv1), _, _, rfl, rfl, S, _, rfl, hs1, by rw [hA.1]; omega, by rw [hA.1]; omega, fun t3 H2 t30 t31 hs2 ks2 => ?_⟩
      have tb2 := Tabs.ks tb1 hs1 ks2
      have hh2 := hh1.ks hs1 ks2 n1 n2
      refine ⟨_, _, rfl, rfl, by show 3 ≤ sizeLine; decide, fun p hp => ?_⟩
      rw [hA.1] at t21 t31
      have e3 := Same.new (o := .lst [V.int (vs.length : Nat), V.int t2, V.int (100 + t3)]) hp
      refine ⟨p, rfl, ⟨_, SqL.of upd_same⟩, for_list (K := K) (a := p) (xs := [V.int (vs.length : Nat), V.int t2, V.int (100 + t3)]) (fun _ σ H => (∃ v : Option V, σ = [some (.ref S), some (.ref sz), some (.ref sp), some (.ref pg), v]) ∧ Tabs T H ∧ Has d H sz sp pg ns ss ∧ H p = some (.lst [V.int (vs.length : Nat), V.int t2, V.int (100 + t3)]))
        ⟨⟨_, rfl⟩, tb2.ext e3, hh2.same e3, upd_same⟩ (fun i σ H _ h => SqL.of h.2.2.2) ?_ (fun σ H h => ⟨h.1, h.2.1, h.2.2.1⟩)⟩
      rintro i x σ H3 hi ⟨⟨v, rfl⟩, tb3, hh3, hp3⟩
      obtain ⟨t, rfl, ht⟩ : ∃ t : Nat, x = .int (t : Int) ∧ t ≤ ss.length := by
        match i, hi with
        | 0, hi => exact ⟨vs.length, (Option.some.inj hi).symm, by rw [hA.1]; exact Nat.le_refl _⟩
        | 1, hi => exact ⟨t2.toNat, by rw [Int.toNat_of_nonneg t20]; exact (Option.some.inj hi).symm, by omega⟩
        | 2, hi => exact ⟨(100 + t3).toNat, by rw [Int.toNat_of_nonneg (by omega)]; exact (Option.some.inj hi).symm, by omega⟩
        | i + 3, hi => cases hi
      refine g_name ?_
      refine ⟨fun σ H => (∃ v : Option V, σ = [some (.ref S), some (.ref sz), some (.ref sp), some (.ref pg), some (.int (t : Int))]) ∧ Tabs T H ∧ Has d H sz sp pg ns ss ∧ H p = some (.lst [V.int (vs.length : Nat), V.int t2, V.int (100 + t3)]), ?_, ?_⟩
      · refine ⟨_, rfl, _, rfl, ?_⟩
        dsimp only [tNil, List.cons_append, List.nil_append]
        refine hh3.made l2 ht fun q H4 e4 hq => ?_
        have hh4 := hh3.same e4
        refine ⟨_, rfl, _, rfl, sz, _, rfl, .inl (SqL.of hh4.sz), _, rfl, ?_⟩
        rw [List.length_map]
        refine ⟨sp, ss, ns.length, t, rfl, hh4.sp, hh4.n6, ht, l2, fun x H5 e5 hx => ?_⟩
        refine ⟨.tuple ((lawMade ss ns.length t).map PyData.int), .tuple ((lawMade ss ns.length t).map PyData.int), .tup (SqT.of (e5 _ _ hq)) (dpAll_ints _), .tup (SqT.of hx) (dpAll_ints _), shaped_tup _, shaped_tup _, _, rfl, ?_⟩
        rw [eqv_tup, decide_eq_true rfl]
        exact iteF ⟨⟨none, rfl⟩, tb3.ext (e4.trans e5), hh4.same e5, (e4.trans e5) _ _ hp3⟩
      clear tb3 hh3 hp3
      rintro σ H3 ⟨⟨_, rfl⟩, tb3, hh3, hp3⟩
      refine ⟨_, rfl, _, rfl, ?_⟩
      dsimp only [tNil, List.cons_append, List.nil_append]
      refine hh3.sure l2 ht fun q H4 e4 hq => ?_
      have hh4 := hh3.same e4
      refine ⟨_, rfl, _, rfl, sz, _, rfl, .inl (SqL.of hh4.sz), _, rfl, ?_⟩
      rw [List.length_map]
      refine ⟨sp, ss, ns.length, t, rfl, hh4.sp, hh4.n6, ht, l2, hh4.lines, fun x H5 e5 hx => ?_⟩
      refine ⟨.tuple ((lawSure ss ns.length t).map PyData.int), .tuple ((lawSure ss ns.length t).map PyData.int), .tup (SqT.of (e5 _ _ hq)) (dpAll_ints _), .tup (SqT.of hx) (dpAll_ints _), shaped_tup _, shaped_tup _, _, rfl, ?_⟩
      rw [eqv_tup, decide_eq_true rfl]
      exact iteF ⟨⟨_, rfl⟩, tb3.ext (e4.trans e5), hh4.same e5, (e4.trans e5) _ _ hp3⟩
    clear hs tb hh
    rintro σ H ⟨⟨v, rfl⟩, tb, hh⟩
    -- a time that is none
    refine ⟨tb, fun H1 eN T1 E' R' hE hR => ?_⟩
    have hh1 := hh.ext eN
    obtain ⟨vs, hv, hA⟩ := hh1.sp
    refine ⟨_, rfl, _, rfl, sp, vs, rfl, .inl (SqL.of hv), _, _, rfl, rfl, ?_⟩
    dsimp only [tNil, List.cons_append, List.nil_append]
    refine hh1.bad l2 (.inr (by rw [hA.1]; omega)) fun x hx => ?_
    refine hE x _ _ upd_same ?_
    refine ⟨_, rfl, sp, vs, rfl, .inl (SqL.of (Same.new hx _ _ hv)), _, _, rfl, rfl, rfl, ?_⟩
    rw [decide_eq_true rfl]
    exact k _
end
end Q

namespace Q
open PySem PySem.Spec PyProof.Rows L2 LamX
abbrev nRight : List Str := ["_law_source_here", "_law_sizes_so", "_law_specs_here", "_law_spec", "_law_here", "_law_size", "_law_at", "_law_parts", "_law_time_so", "_law_due", "_law_one", "_law_odd"]
abbrev sRight : Stmt := topS 39
theorem scRight : FnScope nRight ["_law_source_here"] (defScope sRight) := ⟨rfl, rfl, rfl, by decide +kernel, rfl, by decide +kernel, by decide +kernel⟩
section
variable {P : Program} {w : World} {K : PySem.W.Frag} {mg : Str → Option Value} {base : Heap}
theorem ok_right {f c Pt CS gOa : Addr} {oc kV doc pm ct : Value} {od an : Option Addr} {osl : Array (Option Value)} {fdO : FuncData} {d : Ad} {T : List (Addr × Str)} (lk : K.lookup f = some ⟨oc, od, .func (PySem.W.fnOf "_law_right" "_law_right" (defArgs sRight) (defBody sRight) (defScope sRight) .none kV doc pm an (.ref c) ct), osl⟩) (hcd : PySem.W.codeIn K (.ref c) "_law_right" = true)
    (TB : TabB base mg c Pt) (hmT : (Pt, (("_law_right" : Str) ++ ".<locals>.") ++ "<lambda>") ∈ T) (hu : ∀ p ∈ T, p.1 = Pt → p.2 = (("_law_right" : Str) ++ ".<locals>.") ++ "<lambda>") (TL : TLMade mg) (FD : Cal P w K mg base CX0 "_law_draw" 1 ["_law_source_here", "_law_many"] spDraw) (FP : Cal P w K mg base CX0 "_law_pick" 2 ["_law_source_here", "_law_items"] (spPick K))
    (FZ : Cal P w K mg base CX0 "_law_sizes" 2 ["_law_source_here", "_law_most"] spSizes) (FS : Cal P w K mg base CX0 "_law_specs" 4 ["_law_source_here", "_law_sizes_so", "_law_least", "_law_most"] spSpecs) (FG : Cal P w K mg base CX0 "_law_program" 9 ["_law_sizes_so", "_law_specs_here"] (spProgram d))
    (FM : Cal P w K mg base CX0 "_law_made" 1 ["_law_specs_here", "_law_size", "_law_time_so"] spLMade) (FU : Cal P w K mg base CX0 "_law_sure" 3 ["_law_specs_here", "_law_size", "_law_time_so"] spLSure)
    (GM : Cal P w K mg base (L2.CX P w) "made" 4 ["program", "time"] (spAt d Pg.d)) (GU : Cal P w K mg base (L2.CX P w) "sure" 4 ["program", "time"] (spAt d Pg.s)) (FO : Fun K "_law_refused" "_law_refused" sRef gOa fdO) (gO : mg "_law_refused" = some (.ref gOa)) (bO : Binds K fdO ["_law_call"] []) (TO : TRefd K mg d CS)
    (DA : Dun P w K mg base (L2.CX P w) d.pr "__add__" 9 ["self", "other"] (spAdd d)) (hSF : PySem.W.selfFirst K d.pr = true) (hIsi : mg "isinstance" = none) :
    FnOk P w K mg base CX0 11 f (PySem.W.fnOf "_law_right" "_law_right" (defArgs sRight) (defBody sRight) (defScope sRight) .none kV doc pm an (.ref c) ct) ["_law_source_here"] (spRightT T) := by
  obtain ⟨ocO, odO, kVO, docO, pmO, anO, cdvO, ctO, oslO, rfl, lkO, hcO⟩ := FO.ex
  refine fn_of lk hcd scRight (fun vs H Q E h => ?_) (fun A outer s H0 vs Q E hr h => ?_)
  · obtain ⟨S, rfl, _⟩ := h
    rfl
  · obtain ⟨S, rfl, hs0, tb0, k⟩ := h
    refine (fun (x : ∃ t, PSs (cxOf CX0 P w K mg base nRight "_law_right" (defScope sRight) f (.ref c) A outer s H0 E).nox (defBody sRight) t ∧ t { nx := fun _ H' => Q .non H', rt := Q } (start nRight [.ref S]) H0) => by
      obtain ⟨t, a, b⟩ := x
      exact ⟨t, a.nox, b⟩) ?_
    refine ⟨_, (Evl.pss_cut (ps_set (i := 1) scRight.nd rfl (Or.inl rfl) (pe_cal FZ (hr.mono (by decide)) (by rfl) pass0 (pa_cons (pv 0) (pa_cons pe_int pa_nil))))
    (Evl.pss_cut (ps_set (i := 2) scRight.nd rfl (Or.inl rfl) (pe_cal FS (hr.mono (by decide)) (by rfl) pass0 (pa_cons (pv 0) (pa_cons (pv 1) (pa_cons pe_int (pa_cons pe_int pa_nil))))))
    (Evl.pss_cut (ps_if (pt_cmpR op_eq (pe_cal FD (hr.mono (by decide)) (by rfl) pass0 (pa_cons (pv 0) (pa_cons pe_int pa_nil))) pe_int (nomark _)) (pss_one (ps_setLc (i := 2) (own := [("_law_spec", 3)]) (g := gName 3) (by rfl) scRight.nd rfl rfl (sw_true rfl rfl rfl (by decide +kernel)) (pi_list (pv 2)) (blkOk_by (own := [("_law_spec", 3)]) (N := nRight) (sc := defScope sRight) (by decide +kernel)) (fun _ _ _ _ _ => (pg_name (i := 3) scRight.nd rfl (Or.inl rfl))) (fun _ _ _ _ _ => (pts_one (pt_cmpR op_ne (pe_ix (ix_tupK (K := K) rfl) (pv 3) pe_int (fun _ _ => rfl)) (pe_cal FP (hr.mono (by decide)) (by rfl) pass0 (pa_cons (pv 0) (pa_cons (pe_lst (pa_cons pe_str (pa_cons pe_str (pa_cons pe_str pa_nil)))) pa_nil))) (nomark _)))) (fun _ _ _ _ _ => (pv 3)))) pss_nil)
    (Evl.pss_cut (ps_asg (pe_tup (pa_cons (pe_cal FG (hr.mono (by decide)) (by rfl) pass0 (pa_cons (pv 1) (pa_cons (pv 2) pa_nil))) (pa_cons (pe_callB call_len_seq (by rfl) TL.b_len (by decide +kernel) (pa_cons (pv 1) pa_nil)) pa_nil))) (pg_tup (by rfl) (pgs_cons (pg_name (i := 4) scRight.nd rfl (Or.inr rfl)) (pgs_cons (pg_name (i := 5) scRight.nd rfl (Or.inl rfl)) pgs_nil))))
    (Evl.pss_cut (ps_set (i := 6) scRight.nd rfl (Or.inl rfl) (pe_cal FD (hr.mono (by decide)) (by rfl) pass0 (pa_cons (pv 0) (pa_cons (pe_op op_add (pe_callB call_len_seq (by rfl) TL.b_len (by decide +kernel) (pa_cons (pv 2) pa_nil)) pe_int) pa_nil))))
    (Evl.pss_cut (ps_set (i := 7) scRight.nd rfl (Or.inl rfl) (pe_op (op_addO DA hSF (hr.mono (by decide)) passL) (pe_cal FG (hr.mono (by decide)) (by rfl) pass0 (pa_cons (pv 1) (pa_cons (pe_slice sl_list (pv 2) po_none (po_some (pv 6))) pa_nil))) (pe_cal FG (hr.mono (by decide)) (by rfl) pass0 (pa_cons (pv 1) (pa_cons (pe_slice sl_list (pv 2) (po_some (pv 6)) po_none) pa_nil)))))
    (Evl.pss_cut (ps_for PassesOwn.never rfl (pi_range1 (by rfl) TL.b_range (pa_cons (pe_op op_add (pe_callB call_len_seq (by rfl) TL.b_len (by decide +kernel) (pa_cons (pv 2) pa_nil)) pe_int) pa_nil)) (pg_name (i := 8) scRight.nd rfl (Or.inl rfl)) (Evl.pss_cut (ps_set (i := 9) scRight.nd rfl (Or.inl rfl) (pe_tup (pa_cons (pe_cal FM (hr.mono (by decide)) (by rfl) pass0 (pa_cons (pv 2) (pa_cons (pv 5) (pa_cons (pv 8) pa_nil)))) (pa_cons (pe_cal FU (hr.mono (by decide)) (by rfl) pass0 (pa_cons (pv 2) (pa_cons (pv 5) (pa_cons (pv 8) pa_nil)))) pa_nil))))
    (Evl.pss_cut (ps_for PassesOwn.never rfl (pi_list (pe_lst (pa_cons (pv 4) (pa_cons (pv 7) pa_nil)))) (pg_name (i := 10) scRight.nd rfl (Or.inl rfl)) (pss_one (ps_if (pt_cmpR (op_neD hr.units) (pe_tup (pa_cons (pe_cal GM (hr.mono (by decide)) (by rfl) passL (pa_cons (pv 10) (pa_cons (pv 8) pa_nil))) (pa_cons (pe_cal GU (hr.mono (by decide)) (by rfl) passL (pa_cons (pv 10) (pa_cons (pv 8) pa_nil))) pa_nil))) (pv 9) (nomark _)) (pss_one (ps_ret pe_bl)) pss_nil)))
    (pss_one (ps_if (PW.pt (pw_or (pt_not (pt_val (pe_callB call_isi (by rfl) hIsi (by decide +kernel) (pa_cons (pe_cal GM (hr.mono (by decide)) (by rfl) passL (pa_cons (pv 4) (pa_cons (pv 8) pa_nil))) (pa_cons (pe_bltn (v := .ty "tuple") (by rfl) TL.b_tuple (by decide +kernel) rfl) pa_nil))))) (pw_or1 (pt_not (pt_val (pe_callB call_isi (by rfl) hIsi (by decide +kernel) (pa_cons (pe_cal GU (hr.mono (by decide)) (by rfl) passL (pa_cons (pv 4) (pa_cons (pv 8) pa_nil))) (pa_cons (pe_bltn (v := .ty "tuple") (by rfl) TL.b_tuple (by decide +kernel) rfl) pa_nil)))))))) (pss_one (ps_ret pe_bl)) pss_nil)))))
    (Evl.pss_cut (ps_for PassesOwn.never rfl (pi_list (pe_lst (pa_cons (pe_un un_neg pe_int) (pa_cons (pe_op op_add (pe_callB call_len_seq (by rfl) TL.b_len (by decide +kernel) (pa_cons (pv 2) pa_nil)) pe_int) (pa_cons (pe_op op_pow pe_int pe_int) (pa_cons (pe_op op_sub pe_int (pe_op op_pow pe_int pe_int)) (pa_cons (pe_op op_sub (pe_op op_sub pe_int (pe_callB call_len_seq (by rfl) TL.b_len (by decide +kernel) (pa_cons (pv 2) pa_nil))) pe_int) pa_nil))))))) (pg_name (i := 11) scRight.nd rfl (Or.inr rfl)) (Evl.pss_cut (ps_if (pt_cmpR op_ne (pe_lamS (T := T) rfl gO FO.kp lkO hcO bO scRef rfl (Or.inl rfl) (gives_ref TO) TB rfl hmT hu (k := 5) (hr.mono (by decide)) (lamS_by (sc := defScope sRight) (by decide +kernel)) rfl (fun _ _ _ _ _ => rfl)
      (t := fun E => tCall (spAt d Pg.d) [] E (tCons (tVar 4) (tCons (tVar 11) tNil)))
      (fun E A outer s H f c' hr2 => pe_cal GM (hr2.mono (by decide)) (by rfl) (passes_call (takes_of rfl rfl rfl rfl) (fun _ _ _ _ h => h)) (pa_cons (pv 4) (pa_cons (pv 11) pa_nil)))) (pv 11) (nomark _)) (pss_one (ps_ret pe_bl)) pss_nil)
    (pss_one (ps_if (pt_cmpR op_ne (pe_lamS (T := T) rfl gO FO.kp lkO hcO bO scRef rfl (Or.inl rfl) (gives_ref TO) TB rfl hmT hu (k := 5) (hr.mono (by decide)) (lamS_by (sc := defScope sRight) (by decide +kernel)) rfl (fun _ _ _ _ _ => rfl)
      (t := fun E => tCall (spAt d Pg.s) [] E (tCons (tVar 4) (tCons (tVar 11) tNil)))
      (fun E A outer s H f c' hr2 => pe_cal GU (hr2.mono (by decide)) (by rfl) (passes_call (takes_of rfl rfl rfl rfl) (fun _ _ _ _ h => h)) (pa_cons (pv 4) (pa_cons (pv 11) pa_nil)))) (pv 11) (nomark _)) (pss_one (ps_ret pe_bl)) pss_nil))))
    (pss_one (ps_ret pe_bl)))))))))), ?_⟩
    have n0 : Now T S H0 H0 := ⟨Kp.refl S H0, hs0, tb0⟩
    -- the sizes
    refine ⟨fun σ H => ∃ sz ns, σ = [some (.ref S), some (.ref sz), none, none, none, none, none, none, none, none, none, none] ∧ Now T S H0 H ∧ H sz = some (.lst (ns.map V.int)) ∧ sz ≠ S ∧ SizesOk ns, ?_, ?_⟩
    · refine ⟨_, rfl, S, 6, rfl, hs0, by decide, by decide, fun sz ns H1 hs1 ks1 hz n1 _ ok _ => g_name ⟨sz, ns, rfl, n0.ks ks1 hs1, hz, n1, ok⟩⟩
    rintro σ H ⟨sz, ns, rfl, n, hz, n1, ok⟩
    -- the specs
    refine ⟨fun σ H => ∃ sp ss, σ = [some (.ref S), some (.ref sz), some (.ref sp), none, none, none, none, none, none, none, none, none] ∧ Now T S H0 H ∧ H sz = some (.lst (ns.map V.int)) ∧ Specs H sp ss ∧ sp ≠ S ∧ (∀ s ∈ ss, Good ns s) ∧ ss.length ≤ 16, ?_, ?_⟩
    · exact ⟨_, rfl, _, rfl, S, sz, ns, 0, 16, rfl, n.hs, hz, n1, ok, by decide, by decide, by decide, fun sp ss H3 hs3 ks3 hS n2 _ hg l1 l2 => g_name ⟨sp, ss, rfl, n.ks ks3 hs3, ks3 _ _ hz n1, hS, n2, hg, by omega⟩⟩
    clear n hz
    rintro σ H ⟨sp, ss, rfl, n, hz, hS, n2, hg, l16⟩
    -- some kind is left out
    refine ⟨fun σ H => ∃ sp ss, σ = [some (.ref S), some (.ref sz), some (.ref sp), none, none, none, none, none, none, none, none, none] ∧ Now T S H0 H ∧ H sz = some (.lst (ns.map V.int)) ∧ Specs H sp ss ∧ sp ≠ S ∧ (∀ s ∈ ss, Good ns s) ∧ ss.length ≤ 16, ?_, ?_⟩
    · refine ⟨_, rfl, S, 3, rfl, n.hs, by decide, by decide, fun r H1 _ _ hs1 ks1 => ?_⟩
      have m1 := n.ks ks1 hs1
      have hz1 := ks1 _ _ hz n1
      have hS1 := hS.ks n.hs n2 ks1
      refine ⟨rfl, _, rfl, ?_⟩
      refine ite2 (fun _ => ?_) (fun _ => ⟨sp, ss, rfl, m1, hz1, hS1, n2, hg, l16⟩)
      obtain ⟨vs, hv, hA⟩ := hS1
      refine ⟨_, rfl, sp, rfl, ⟨_, SqL.of hv⟩, fun Dl hD => ?_⟩
      have nD := m1.noS hD
      refine lc_list (K := K) (a := sp) (xs := vs) (fun i H' => ∃ ts, Specs H' Dl ts ∧ ts.length ≤ i ∧ (∀ s ∈ ts, Good ns s) ∧ Now T S H0 H' ∧ H' sp = some (.lst vs) ∧ All2 (SpecAt H') vs ss ∧ H' sz = some (.lst (ns.map V.int)))
        ⟨[], ⟨[], upd_same, .nil⟩, Nat.le_refl 0, fun s h => by simp at h, m1.new hD, Same.new hD _ _ hv, hA.mono fun v c q => q.ke (Ke.same (Same.new hD)), Same.new hD _ _ hz1⟩ (fun i H' _ h => SqL.of (by obtain ⟨_, _, _, _, _, e, _⟩ := h; exact e)) ?_ ?_
      · rintro i v H2 hi ⟨ts, ⟨xs, hx, hX⟩, hl, hgt, m2, hv2, hA2, hz2⟩
        obtain ⟨s, hs, hsv⟩ := hA2.get hi
        obtain ⟨q, rfl, hq⟩ := id hsv
        have hi2 : i < ss.length := (List.getElem?_eq_some_iff.mp hs).1
        refine g_name ⟨rfl, ?_⟩
        refine ⟨_, rfl, q, scV s, 0, _, rfl, rfl, SqT.of hq, at0, _, rfl, (by show 3 ≤ sizeLine; decide), fun p hp => ?_⟩
        have e3 := Same.new (o := .lst [V.str "fence", V.str "flush", V.str "store"]) hp
        refine ⟨S, p, _, rfl, Same.src e3 m2.hs, upd_same, m2.noS hp, by decide, by decide, fun x H3 hx3 hs3 ks3 => ?_⟩
        have m3 := (m2.same e3).ks ks3 hs3
        have ke3 : Ke H2 H3 := (Ke.same e3).trans (Ke.ks (Same.src e3 m2.hs) ks3)
        have hx4 : H3 Dl = some (.lst xs) := ks3 _ _ (e3 _ _ hx) nD
        have hv4 : H3 sp = some (.lst vs) := ks3 _ _ (e3 _ _ hv2) n2
        have hz4 : H3 sz = some (.lst (ns.map V.int)) := ks3 _ _ (e3 _ _ hz2) n1
        have hscal : scal (V.str s.k.str) x = true := by
          simp only [List.mem_cons, List.not_mem_nil, or_false] at hx3
          rcases hx3 with rfl | rfl | rfl <;> rfl
        refine ⟨hscal, _, rfl, ?_⟩
        have nDsp : sp ≠ Dl := ne_of_none hv hD
        have nDsz : sz ≠ Dl := ne_of_none hz1 hD
        have k5 := Ke.lst (o := .lst (xs ++ [.ref q])) hx4
        refine ite2 (fun _ => ?_) (fun _ => ?_)
        · refine ⟨_, rfl, xs, hx4, small1000 (by rw [hX.1]; omega), ts ++ [s], ⟨xs ++ [.ref q], upd_same, ?_⟩, by rw [List.length_append]; show ts.length + 1 ≤ i + 1; omega, fun z hz5 => ?_, m3.mut hx4 (m1.fresh hD) nD, by rw [upd_ne nDsp]; exact hv4, hA2.mono fun v c q => (q.ke ke3).ke k5, by rw [upd_ne nDsz]; exact hz4⟩
          · exact All2.snoc (hX.mono fun v c q => (q.ke ke3).ke k5) ((hsv.ke ke3).ke k5)
          · rcases List.mem_append.mp hz5 with h | h
            · exact hgt z h
            · rw [List.mem_singleton.mp h]
              exact hg s (List.mem_of_getElem? hs)
        · exact ⟨ts, ⟨xs, hx4, hX.mono fun v c q => q.ke ke3⟩, by omega, hgt, m3, hv4, hA2.mono fun v c q => q.ke ke3, hz4⟩
      · rintro H2 ⟨ts, hT, hl, hgt, m2, _, _, hz2⟩
        exact g_name ⟨Dl, ts, rfl, m2, hz2, hT, nD, hgt, by rw [hA.1] at hl; omega⟩
    clear n hz hS n2 hg l16
    rintro σ H ⟨sp, ss, rfl, n, hz, hS, n2, hg, l16⟩
    have l200 : ss.length ≤ 200 := by omega
    -- the program
    refine ⟨fun σ H => ∃ pg, σ = [some (.ref S), some (.ref sz), some (.ref sp), none, some (.ref pg), some (.int (ns.length : Nat)), none, none, none, none, none, none] ∧ Now T S H0 H ∧ Has d H sz sp pg ns ss, ?_, ?_⟩
    · refine ⟨_, rfl, _, rfl, sz, sp, ns, ss, rfl, hz, ok, hS, hg, l200, fun pg H1 e1 hP => ?_⟩
      have hz1 := e1 _ _ hz
      refine ⟨_, rfl, sz, _, rfl, .inl (SqL.of hz1), by show 2 ≤ sizeLine; decide, fun t ht => ?_⟩
      have e2 := e1.trans (Same.new (o := .tup [.ref pg, .int (ns.map V.int).length]) ht)
      refine ⟨t, _, rfl, SqT.of upd_same, rfl, _, _, rfl, _, _, rfl, rfl, ?_⟩
      refine ⟨pg, ?_, n.same e2, ok, e2 _ _ hz, hS.same e2, hP.ke (Ke.same (Same.new ht)), hg⟩
      rw [List.length_map]
      rfl
    clear hz hS hg n
    rintro σ H ⟨pg, rfl, n, hh⟩
    -- where it is parted
    refine ⟨fun σ H => ∃ at' : Nat, at' ≤ ss.length ∧ σ = [some (.ref S), some (.ref sz), some (.ref sp), none, some (.ref pg), some (.int (ns.length : Nat)), some (.int (at' : Int)), none, none, none, none, none] ∧ Now T S H0 H ∧ Has d H sz sp pg ns ss, ?_, ?_⟩
    · obtain ⟨vs, hv, hA⟩ := hh.sp
      refine ⟨_, rfl, _, rfl, sp, vs, rfl, .inl (SqL.of hv), _, _, rfl, rfl, S, _, rfl, n.hs, by omega, by rw [hA.1]; omega, fun r H1 r0 r1 hs1 ks1 => g_name ⟨r.toNat, by rw [hA.1] at r1; omega, ?_, n.ks ks1 hs1, hh.ks n.hs ks1 n1 n2⟩⟩
      rw [Int.toNat_of_nonneg r0]
      rfl
    clear n hh
    rintro σ H ⟨at', hat, rfl, n, hh⟩
    -- the sum of the parts
    refine ⟨fun σ H => ∃ pp, (∃ v8 v9 v10 v11 : Option V, σ = [some (.ref S), some (.ref sz), some (.ref sp), none, some (.ref pg), some (.int (ns.length : Nat)), some (.int (at' : Int)), some (.ref pp), v8, v9, v10, v11]) ∧ Now T S H0 H ∧ Has d H sz sp pg ns ss ∧ Has d H sz sp pp ns ss, ?_, ?_⟩
    · obtain ⟨vs, hv, hA⟩ := id hh.sp
      refine ⟨_, rfl, _, rfl, _, rfl, (at' : Int), rfl, sp, vs, rfl, SqL.of hv, fun u hu => ?_⟩
      rw [cut_to]
      have e1 := Same.new (o := .lst (vs.take at')) hu
      have hh1 := hh.same e1
      refine ⟨sz, u, ns, ss.take at', rfl, hh1.sz, ok, ⟨vs.take at', upd_same, (hA.take at').mono fun v c q => q.ke (Ke.same e1)⟩, fun s hs => hh.good s (List.mem_of_mem_take hs), by rw [List.length_take]; omega, fun p1 H2 e2 hP1 => ?_⟩
      have hv2 := (e1.trans e2) _ _ hv
      refine ⟨_, rfl, _, rfl, _, rfl, (at' : Int), rfl, sp, vs, rfl, SqL.of hv2, fun u2 hu2 => ?_⟩
      rw [cut_rest]
      have e3 := Same.new (o := .lst (vs.drop at')) hu2
      have e123 := (e1.trans e2).trans e3
      have hh3 := hh.same e123
      refine ⟨sz, u2, ns, ss.drop at', rfl, hh3.sz, ok, ⟨vs.drop at', upd_same, (hA.drop at').mono fun v c q => q.ke (Ke.same e123)⟩, fun s hs => hh.good s (List.mem_of_mem_drop hs), by rw [List.length_drop]; omega, fun p2 H4 e4 hP2 => ?_⟩
      have hP1' := hP1.ke (Ke.same (e3.trans e4))
      obtain ⟨x1, m1, t1, xs1, y1, _⟩ := id hP1'
      obtain ⟨x2, m2, t2, xs2, y2, _⟩ := id hP2
      have ea : cmds (ss.take at') ++ cmds (ss.drop at') = cmds ss := by
        unfold cmds
        rw [← List.map_append, List.take_append_drop]
      refine ⟨p1, p2, x1, x2, _, _, rfl, rfl, y1, y2, p1, p2, ns, _, _, rfl, hP1', hP2, ?_, by rw [cmds_len, cmds_len, List.length_take, List.length_drop]; omega, fun r H5 e5 hR => ⟨⟨r, rfl⟩, g_name ?_⟩⟩
      · rw [ea]
        exact progErr_of (valid_of hh.good) (by rw [cmds_len]; exact l200)
      · rw [ea] at hR
        have eall := (e123.trans e4).trans e5
        have hhf := hh.same eall
        exact ⟨r, ⟨_, _, _, _, rfl⟩, n.same eall, hhf, hhf.ok, hhf.sz, hhf.sp, hR, hhf.good⟩
    clear n hh
    rintro σ H ⟨pp, ⟨v8, v9, v10, v11, rfl⟩, n, hh, hp⟩
    -- all times
    refine ⟨fun σ H => (∃ v8 v9 v10 v11 : Option V, σ = [some (.ref S), some (.ref sz), some (.ref sp), none, some (.ref pg), some (.int (ns.length : Nat)), some (.int (at' : Int)), some (.ref pp), v8, v9, v10, v11]) ∧ Now T S H0 H ∧ Has d H sz sp pg ns ss ∧ Has d H sz sp pp ns ss, ?_, ?_⟩
    · obtain ⟨vs, hv, hA⟩ := id hh.sp
      refine ⟨_, rfl, sp, vs, rfl, .inl (SqL.of hv), _, _, rfl, rfl, _, rfl, by omega, by rw [hA.1]; omega, ?_⟩
      refine for_range (lo := 0) (n := ((vs.length : Int) + 1).toNat) (fun _ σ H => (∃ v8 v9 v10 v11 : Option V, σ = [some (.ref S), some (.ref sz), some (.ref sp), none, some (.ref pg), some (.int (ns.length : Nat)), some (.int (at' : Int)), some (.ref pp), v8, v9, v10, v11]) ∧ Now T S H0 H ∧ Has d H sz sp pg ns ss ∧ Has d H sz sp pp ns ss)
        ⟨⟨_, _, _, _, rfl⟩, n, hh, hp⟩ ?_ (fun σ H h => h)
      have hlen := hA.1
      clear n hh hp hv hA
      rintro t σ H ht ⟨⟨v8, v9, v10, v11, rfl⟩, n, hh, hp⟩
      have ht2 : t ≤ ss.length := by omega
      have ez : ((0 : Int) + (t : Int)) = (t : Int) := Int.zero_add _
      rw [ez]
      refine g_name ?_
      -- what is due
      refine ⟨fun σ H => ∃ du, (∃ v10 v11 : Option V, σ = [some (.ref S), some (.ref sz), some (.ref sp), none, some (.ref pg), some (.int (ns.length : Nat)), some (.int (at' : Int)), some (.ref pp), some (.int (t : Int)), some (.ref du), v10, v11]) ∧
        Dp K H (.ref du) (pairD (lawMade ss ns.length t) (lawSure ss ns.length t)) ∧ Now T S H0 H ∧ Has d H sz sp pg ns ss ∧ Has d H sz sp pp ns ss, ?_, ?_⟩
      · refine ⟨_, rfl, _, rfl, _, rfl, sp, ss, ns.length, t, rfl, hh.sp, hh.n6, ht2, l200, fun a H1 e1 ha => ?_⟩
        refine ⟨_, rfl, _, rfl, _, rfl, sp, ss, ns.length, t, rfl, (hh.same e1).sp, hh.n6, ht2, l200, hh.lines, fun b H2 e2 hb => ?_⟩
        refine ⟨by show 2 ≤ sizeLine; decide, fun du hdu => g_name ?_⟩
        have e3 := Same.new (o := .tup [.ref a, .ref b]) hdu
        have eall := (e1.trans e2).trans e3
        exact ⟨du, ⟨_, _, rfl⟩, dp_pair upd_same (e3 _ _ (e2 _ _ ha)) (e3 _ _ hb), n.same eall, hh.same eall, hp.same eall⟩
      clear n hh hp v8 v9 v10 v11
      rintro σ H ⟨du, ⟨v10, v11, rfl⟩, hdu, n, hh, hp⟩
      -- both programs
      refine ⟨fun σ H => (∃ v10 v11 : Option V, σ = [some (.ref S), some (.ref sz), some (.ref sp), none, some (.ref pg), some (.int (ns.length : Nat)), some (.int (at' : Int)), some (.ref pp), some (.int (t : Int)), some (.ref du), v10, v11]) ∧
        Now T S H0 H ∧ Has d H sz sp pg ns ss ∧ Has d H sz sp pp ns ss, ?_, ?_⟩
      · refine ⟨_, rfl, _, rfl, by show 2 ≤ sizeLine; decide, fun pl hpl => ?_⟩
        have e1 := Same.new (o := .lst [.ref pg, .ref pp]) hpl
        refine ⟨pl, rfl, ⟨_, SqL.of upd_same⟩, for_list (K := K) (a := pl) (xs := [.ref pg, .ref pp]) (fun _ σ H => (∃ v10 v11 : Option V, σ = [some (.ref S), some (.ref sz), some (.ref sp), none, some (.ref pg), some (.int (ns.length : Nat)), some (.int (at' : Int)), some (.ref pp), some (.int (t : Int)), some (.ref du), v10, v11]) ∧
          Dp K H (.ref du) (pairD (lawMade ss ns.length t) (lawSure ss ns.length t)) ∧ Now T S H0 H ∧ Has d H sz sp pg ns ss ∧ Has d H sz sp pp ns ss ∧ H pl = some (.lst [.ref pg, .ref pp]))
          ⟨⟨_, _, rfl⟩, dp_same e1 hdu, n.same e1, hh.same e1, hp.same e1, upd_same⟩ (fun i σ H _ h => SqL.of h.2.2.2.2.2) ?_ (fun σ H h => ⟨h.1, h.2.2.1, h.2.2.2.1, h.2.2.2.2.1⟩)⟩
        clear n hh hp hdu v10 v11
        rintro i x σ H hi ⟨⟨v10, v11, rfl⟩, hdu, n, hh, hp, hpl⟩
        obtain ⟨po, rfl, ho⟩ : ∃ po, x = .ref po ∧ Has d H sz sp po ns ss := by
          match i, hi with
          | 0, hi => exact ⟨pg, (Option.some.inj hi).symm, hh⟩
          | 1, hi => exact ⟨pp, (Option.some.inj hi).symm, hp⟩
          | i + 2, hi => cases hi
        refine g_name ?_
        refine ⟨_, rfl, _, rfl, ?_⟩
        dsimp only [tNil, List.cons_append, List.nil_append]
        refine ho.made l200 ht2 fun a H1 e2 ha => ?_
        refine ⟨_, rfl, _, rfl, ?_⟩
        dsimp only [tNil, List.cons_append, List.nil_append]
        refine (ho.same e2).sure l200 ht2 fun b H2 e3 hb => ?_
        refine ⟨by show 2 ≤ sizeLine; decide, fun q hq => ?_⟩
        have e4 := Same.new (o := .tup [.ref a, .ref b]) hq
        have eall := (e2.trans e3).trans e4
        refine ⟨_, rfl, _, _, dp_pair upd_same (e4 _ _ (e3 _ _ ha)) (e4 _ _ hb), dp_same eall hdu, pair_shaped _ _, pair_shaped _ _, _, rfl, ?_⟩
        rw [eqv_same (pair_shaped _ _)]
        exact iteF ⟨⟨_, _, rfl⟩, dp_same eall hdu, n.same eall, hh.same eall, hp.same eall, eall _ _ hpl⟩
      clear n hh hp hdu v10 v11
      rintro σ H ⟨⟨v10, v11, rfl⟩, n, hh, hp⟩
      -- they are tuples
      refine ⟨_, rfl, _, rfl, ?_⟩
      dsimp only [tNil, List.cons_append, List.nil_append]
      refine hh.made l200 ht2 fun a H1 e2 ha => ?_
      refine ⟨.ref a, .ty "tuple", .type "tuple", .type "tuple", true, rfl, .ty _, .base (.tup ha), kit_ty (by decide +kernel), true, rfl, ?_⟩
      refine iteF ?_
      refine ⟨_, rfl, _, rfl, ?_⟩
      dsimp only [tNil, List.cons_append, List.nil_append]
      refine (hh.same e2).sure l200 ht2 fun b H2 e3 hb => ?_
      refine ⟨.ref b, .ty "tuple", .type "tuple", .type "tuple", true, rfl, .ty _, .base (.tup hb), kit_ty (by decide +kernel), true, rfl, ?_⟩
      refine iteF ?_
      have eall := e2.trans e3
      exact ⟨⟨_, _, _, _, rfl⟩, n.same eall, hh.same eall, hp.same eall⟩
    clear n hh hp v8 v9 v10 v11
    rintro σ H ⟨⟨v8, v9, v10, v11, rfl⟩, n, hh, hp⟩
    -- times that are none
    refine ⟨fun _ H => Now T S H0 H, ?_, fun _ H' h => k H' h⟩
    obtain ⟨vs, hv, hA⟩ := id hh.sp
    refine ⟨_, rfl, _, rfl, sp, vs, rfl, .inl (SqL.of hv), _, _, rfl, rfl, _, _, rfl, rfl, ⟨by decide, by decide, by decide⟩, _, _, rfl, rfl, ⟨by decide, by decide, by decide⟩, _, _, rfl, rfl, _, rfl, sp, vs, rfl, .inl (SqL.of hv), _, _, rfl, rfl, _, _, rfl, rfl, by show 5 ≤ sizeLine; decide, fun pl hpl => ?_⟩
    have e1 := Same.new (o := .lst [.int (-1), .int ((vs.length : Nat) + 1), .int (10 ^ (20 : Int).toNat), .int (0 - 10 ^ (20 : Int).toNat), .int (0 - (vs.length : Nat) - 1)]) hpl
    have hlen := hA.1
    refine ⟨pl, rfl, ⟨_, SqL.of upd_same⟩, for_list (K := K) (a := pl) (xs := [.int (-1), .int ((vs.length : Nat) + 1), .int (10 ^ (20 : Int).toNat), .int (0 - 10 ^ (20 : Int).toNat), .int (0 - (vs.length : Nat) - 1)]) (fun _ σ H => (∃ v8 v9 v10 v11 : Option V, σ = [some (.ref S), some (.ref sz), some (.ref sp), none, some (.ref pg), some (.int (ns.length : Nat)), some (.int (at' : Int)), some (.ref pp), v8, v9, v10, v11]) ∧ Now T S H0 H ∧ Has d H sz sp pg ns ss ∧
      H pl = some (.lst [.int (-1), .int ((vs.length : Nat) + 1), .int (10 ^ (20 : Int).toNat), .int (0 - 10 ^ (20 : Int).toNat), .int (0 - (vs.length : Nat) - 1)])) ⟨⟨_, _, _, _, rfl⟩, n.same e1, hh.same e1, upd_same⟩ (fun i σ H _ h => SqL.of h.2.2.2) ?_ (fun σ H h => h.2.1)⟩
    clear n hh hp hv hA e1 hpl v8 v9 v10 v11
    rintro i x σ H hi ⟨⟨v8, v9, v10, v11, rfl⟩, n, hh, hpl⟩
    obtain ⟨o, rfl, ho⟩ : ∃ o : Int, x = .int o ∧ (o < 0 ∨ (ss.length : Int) < o) := by
      match i, hi with
      | 0, hi => exact ⟨_, (Option.some.inj hi).symm, .inl (by decide)⟩
      | 1, hi => exact ⟨_, (Option.some.inj hi).symm, .inr (by omega)⟩
      | 2, hi => exact ⟨_, (Option.some.inj hi).symm, .inr (by
          have : (10 : Int) ^ (20 : Int).toNat = 100000000000000000000 := by decide
          omega)⟩
      | 3, hi => exact ⟨_, (Option.some.inj hi).symm, .inl (by decide)⟩
      | 4, hi => exact ⟨_, (Option.some.inj hi).symm, .inl (by omega)⟩
      | i + 5, hi => cases hi
    refine g_name ?_
    refine ⟨fun σ H => (∃ v8 v9 v10 : Option V, σ = [some (.ref S), some (.ref sz), some (.ref sp), none, some (.ref pg), some (.int (ns.length : Nat)), some (.int (at' : Int)), some (.ref pp), v8, v9, v10, some (.int o)]) ∧ Now T S H0 H ∧ Has d H sz sp pg ns ss ∧
      H pl = some (.lst [.int (-1), .int ((vs.length : Nat) + 1), .int (10 ^ (20 : Int).toNat), .int (0 - 10 ^ (20 : Int).toNat), .int (0 - (vs.length : Nat) - 1)]), ?_, ?_⟩
    · refine ⟨n.tb, fun H1 eN T1 E' R' hE hR => ?_⟩
      have m1 := n.ext eN T1
      have hh1 := hh.ext eN
      have hpl1 := eN _ _ hpl (fun _ z => by cases z)
      refine ⟨_, rfl, _, rfl, ?_⟩
      dsimp only [tNil, List.cons_append, List.nil_append]
      refine hh1.bad l200 ho fun y hy => ?_
      refine hE y _ _ upd_same ?_
      have e2 := Same.new (o := .xd [("time", .int o)]) hy
      refine ⟨_, rfl, rfl, _, rfl, ?_⟩
      rw [decide_eq_true rfl]
      exact iteF ⟨⟨_, _, _, rfl⟩, m1.same e2, hh1.same e2, e2 _ _ hpl1⟩
    clear n hh hpl v8 v9 v10 v11
    rintro σ H ⟨⟨v8, v9, v10, rfl⟩, n, hh, hpl⟩
    refine ⟨n.tb, fun H1 eN T1 E' R' hE hR => ?_⟩
    have m1 := n.ext eN T1
    have hh1 := hh.ext eN
    have hpl1 := eN _ _ hpl (fun _ z => by cases z)
    refine ⟨_, rfl, _, rfl, ?_⟩
    dsimp only [tNil, List.cons_append, List.nil_append]
    refine hh1.bad l200 ho fun y hy => ?_
    refine hE y _ _ upd_same ?_
    have e2 := Same.new (o := .xd [("time", .int o)]) hy
    refine ⟨_, rfl, rfl, _, rfl, ?_⟩
    rw [decide_eq_true rfl]
    exact iteF ⟨⟨_, _, _, _, rfl⟩, m1.same e2, hh1.same e2, e2 _ _ hpl1⟩
end
end Q

namespace Q
open PySem PySem.Spec PyProof.Rows L2 LamX
abbrev sLaw : Stmt := topS 40
theorem scLaw : FnScope ["_law_script", "_law_cell", "_law_source_here"] ["_law_script"] (defScope sLaw) := ⟨rfl, rfl, rfl, by decide +kernel, rfl, by decide +kernel, by decide +kernel⟩

def tabs5 (P1 P2 : Addr) : List (Addr × Str) := [(P1, (("_law_right" : Str) ++ ".<locals>.") ++ "<lambda>"), (P2, (("_law_long_right" : Str) ++ ".<locals>.") ++ "<lambda>")]
def spLaw (K : PySem.W.Frag) (T : List (Addr × Str)) : Sp := fun vs H Q _ => ∃ (a : Addr) (ns : List Int), vs = [.ref a] ∧ SqL K H a (ns.map V.int) ∧ ns.length ≤ 63 ∧ Tabs T H ∧ ∀ H', Q (.bl true) H'
section
variable {P : Program} {w : World} {K : PySem.W.Frag} {mg : Str → Option Value} {base : Heap}
theorem ok_law {f : Addr} {fd : FuncData} {T : List (Addr × Str)} (F : Fun K "law" "law" sLaw f fd) (FS : Cal P w K mg base CX0 "_law_source" 1 ["_law_cell"] spSource) (FR : Cal P w K mg base CX0 "_law_right" 11 ["_law_source_here"] (spRightT T)) (FO : Cal P w K mg base CX0 "_law_long_right" 11 ["_law_source_here"] (spLong T)) :
    FnOk P w K mg base CX0 12 f fd ["_law_script"] (spLaw K T) := by
  refine F.ok scLaw (fun vs H Q E h => ?_) (fun cdv A outer s H vs Q E hr h => ?_)
  · obtain ⟨a, ns, rfl, _⟩ := h
    rfl
  · obtain ⟨a, ns, rfl, hS, h63, tb, k⟩ := h
    refine ⟨_, (Evl.pss_cut (ps_for PassesOwn.never rfl (pi_list (pe_slice sl_list (pe_op op_catR (pv 0) (pe_lst (pa_cons pe_int pa_nil))) po_none (po_some pe_int))) (pg_name (i := 1) scLaw.nd rfl (Or.inl rfl)) (Evl.pss_cut (ps_set (i := 2) scLaw.nd rfl (Or.inl rfl) (pe_cal FS (hr.mono (by decide)) (by rfl) pass0 (pa_cons (pv 1) pa_nil)))
    (pss_one (ps_if (pt_not (pt_val (pe_cal FR (hr.mono (by decide)) (by rfl) pass0 (pa_cons (pv 2) pa_nil)))) (pss_one (ps_ret pe_bl)) pss_nil))))
    (pss_one (ps_ret (pe_cal FO (hr.mono (by decide)) (by rfl) pass0 (pa_cons (pe_cal FS (hr.mono (by decide)) (by rfl) pass0 (pa_cons (pe_op op_add (pe_ix ix_list (pe_op op_catR (pv 0) (pe_lst (pa_cons pe_int pa_nil))) pe_int (fun _ _ => rfl)) pe_int) pa_nil)) pa_nil))))), ?_⟩
    have l63 : (ns.map V.int).length + 1 ≤ sizeLine := by
      rw [List.length_map]
      exact Nat.le_of_lt (small1000 (by omega))
    refine ⟨fun σ H => (∃ v1 v2 : Option V, σ = [some (.ref a), v1, v2]) ∧ SqL K H a (ns.map V.int) ∧ Tabs T H, ?_, ?_⟩
    · refine ⟨_, rfl, Nat.succ_le_of_lt (by decide), fun z hz => ?_⟩
      refine ⟨a, z, _, _, rfl, rfl, (Same.new hz).seq hS, SqL.of upd_same, l63, fun p hp => ?_⟩
      refine ⟨4, rfl, p, _, rfl, SqL.of upd_same, fun q hq => ?_⟩
      refine ⟨q, rfl, ⟨_, SqL.of upd_same⟩, for_list (K := K) (a := q) (fun _ σ H => (∃ v1 v2 : Option V, σ = [some (.ref a), v1, v2]) ∧ H q = some (.lst (cutV (ns.map V.int ++ [V.int 0]) none (some 4))) ∧ SqL K H a (ns.map V.int) ∧ Tabs T H)
        ⟨⟨_, _, rfl⟩, upd_same, (Same.new hq).seq ((Same.new hp).seq ((Same.new hz).seq hS)), ((tb.ext (Same.new hz)).ext (Same.new hp)).ext (Same.new hq)⟩ (fun i σ H _ h => SqL.of h.2.1) ?_ (fun σ H h => ⟨h.1, h.2.2.1, h.2.2.2⟩)⟩
      rintro i x σ H1 hi ⟨⟨v1, v2, rfl⟩, hq1, hS1, tb1⟩
      obtain ⟨n, rfl⟩ : ∃ n, x = .int n := by
        have hm : x ∈ ns.map V.int ++ [V.int 0] := List.mem_of_mem_drop (List.mem_of_mem_take (List.mem_of_getElem? hi))
        rcases List.mem_append.mp hm with h | h
        · exact int_of_mem h
        · exact ⟨0, List.mem_singleton.mp h⟩
      refine g_name ?_
      refine ⟨fun σ H => ∃ S, (∃ v1 : Option V, σ = [some (.ref a), v1, some (.ref S)]) ∧ S ≠ q ∧ (∀ H', Kp S H H' → SqL K H' a (ns.map V.int)) ∧ H q = some (.lst (cutV (ns.map V.int ++ [V.int 0]) none (some 4))) ∧ SqL K H a (ns.map V.int) ∧ HasSrc S H ∧ Tabs T H, ?_, ?_⟩
      · refine ⟨_, rfl, n, rfl, fun S x y z hS0 => g_name ?_⟩
        have ne : q ≠ S := ne_of_none hq1 hS0
        exact ⟨S, ⟨_, rfl⟩, Ne.symm ne, fun H' e => sq_kp hS0 hS1 e, by rw [upd_ne ne]; exact hq1, (Same.new hS0).seq hS1, ⟨_, _, _, upd_same⟩, tb1.ext (Same.new hS0)⟩
      rintro σ H2 ⟨S, ⟨v1, rfl⟩, ne, ne2, hq2, hS2, hs2, tb2⟩
      refine ⟨_, rfl, S, rfl, hs2, tb2, fun H3 n3 => ?_⟩
      refine ⟨true, rfl, iteF ?_⟩
      exact ⟨⟨_, _, rfl⟩, n3.kp _ _ hq2 (Ne.symm ne) (fun ps z => by cases z), ne2 _ n3.kp, n3.tb⟩
    rintro σ H2 ⟨⟨v1, v2, rfl⟩, hS2, tb2⟩
    refine ⟨_, rfl, Nat.succ_le_of_lt (by decide), fun z hz => ?_⟩
    refine ⟨a, z, _, _, rfl, rfl, (Same.new hz).seq hS2, SqL.of upd_same, l63, fun p hp => ?_⟩
    obtain ⟨c, hc⟩ : ∃ c : Int, atI (ns.map V.int ++ [V.int 0]) 0 = some (.int c) := by
      cases ns with
      | nil => exact ⟨0, at0⟩
      | cons c _ => exact ⟨c, at0⟩
    refine ⟨p, _, 0, _, rfl, rfl, SqL.of upd_same, hc, ?_⟩
    refine ⟨c, 1, rfl, rfl, _, rfl, fun S x y w hS0 => ?_⟩
    exact ⟨S, rfl, ⟨_, _, _, upd_same⟩, ((tb2.ext (Same.new hz)).ext (Same.new hp)).ext (Same.new hS0), fun H' => k H'⟩
end
end Q

namespace Q
open PySem PySem.Spec PyProof.Rows L2 LamX
/-- an error of the class at S is what «except S» names -/
theorem exm_self {K : PySem.W.Frag} {S : Addr} (h1 : PySem.W.subIn K (.ref S) (.type "BaseException") = some true) (h2 : PySem.W.isClsIn K S = true) (h3 : PySem.W.typeIn K (.ref S) = some (.type "type")) (h4 : PySem.W.subIn K (.ref S) (.ref S) = some true) :
    PySem.W.exmOne K (.ref S) (.ref S) = some true := by
  have e1 : (PySem.W.subIn K (.ref S) (.type "BaseException") == some true) = true := by rw [h1] <;> rfl
  have e2 : ((PySem.W.clsIn K S).isSome && PySem.W.typeIn K (.ref S) == some (.type "type")) = true := by
    have h5 : (PySem.W.clsIn K S).isSome = true := h2
    rw [h5, h3] <;> rfl
  show (if (PySem.W.subIn K (.ref S) (.type "BaseException") == some true) = true then (if ((PySem.W.clsIn K S).isSome && PySem.W.typeIn K (.ref S) == some (.type "type")) = true then PySem.W.subIn K (.ref S) (.ref S) else none) else none) = some true
  rw [if_pos e1, if_pos e2]
  exact h4
theorem all_mk {l : PySem.W.OpenLaw} {w : World} {K : PySem.W.Frag} {h : Heap} {mg : Str → Option Value} {fa : Addr} {ts : List Addr} (X : K.In h) (G : h.Ns mainGlobals mg) (hfa : mg "law" = some (.ref fa)) (hT : ∀ P ∈ ts, h.get? P = some (PySem.W.tabObj #[]))
    {CS : Addr}
    {CB : Addr} {nm_CB qn_CB : Str} {N_CB : Addr} {bs_CB bm_CB : List Value} {sn_CB : List Str} {sub_CB : List Value} {ab_CB : Bool} {col_CB : Option Bool} {dd_CB : Option Addr} {m0_CB m1_CB m2_CB m3_CB m5_CB : Option Value}
    {f_badI : Addr} {od_badI an_badI : Option Addr} {sl_badI : Array (Option Value)} {oc_badI kV_badI dc_badI pm_badI cd_badI ct_badI : Value}
    {CL : Addr} {nm_CL qn_CL : Str} {N_CL : Addr} {bs_CL bm_CL : List Value} {sn_CL : List Str} {sub_CL : List Value} {ab_CL : Bool} {col_CL : Option Bool} {dd_CL : Option Addr} {m0_CL m1_CL m2_CL m3_CL m5_CL : Option Value}
    {f_nlI : Addr} {od_nlI an_nlI : Option Addr} {sl_nlI : Array (Option Value)} {oc_nlI kV_nlI dc_nlI pm_nlI cd_nlI ct_nlI : Value}
    {CW : Addr} {nm_CW qn_CW : Str} {N_CW : Addr} {bs_CW bm_CW : List Value} {sn_CW : List Str} {sub_CW : List Value} {ab_CW : Bool} {col_CW : Option Bool} {dd_CW : Option Addr} {m0_CW m1_CW m2_CW m3_CW m5_CW : Option Value}
    {f_nwI : Addr} {od_nwI an_nwI : Option Addr} {sl_nwI : Array (Option Value)} {oc_nwI kV_nwI dc_nwI pm_nwI cd_nwI ct_nwI : Value}
    {CN : Addr} {nm_CN qn_CN : Str} {N_CN : Addr} {bs_CN bm_CN : List Value} {sn_CN : List Str} {sub_CN : List Value} {ab_CN : Bool} {col_CN : Option Bool} {dd_CN : Option Addr} {m0_CN m1_CN m2_CN m3_CN m5_CN : Option Value}
    {f_ntI : Addr} {od_ntI an_ntI : Option Addr} {sl_ntI : Array (Option Value)} {oc_ntI kV_ntI dc_ntI pm_ntI cd_ntI ct_ntI : Value}
    {t_MOST_LINES : Tok}
    {t_MOST_WORDS : Tok}
    {t_MOST_COMMANDS : Tok}
    {CM : Addr}
    {CT : Addr}
    {CF : Addr}
    {CP : Addr}
    {CE : Addr}
    {f_ck : Addr} {od_ck an_ck : Option Addr} {sl_ck : Array (Option Value)} {oc_ck kV_ck dc_ck pm_ck ct_ck : Value}
    {cd_ck : Value}
    {f_mi : Addr} {od_mi an_mi : Option Addr} {sl_mi : Array (Option Value)} {oc_mi kV_mi dc_mi pm_mi cd_mi ct_mi : Value}
    {f_si : Addr} {od_si an_si : Option Addr} {sl_si : Array (Option Value)} {oc_si kV_si dc_si pm_si cd_si ct_si : Value}
    {f_fi : Addr} {od_fi an_fi : Option Addr} {sl_fi : Array (Option Value)} {oc_fi kV_fi dc_fi pm_fi cd_fi ct_fi : Value}
    {f_cl : Addr} {od_cl an_cl : Option Addr} {sl_cl : Array (Option Value)} {oc_cl kV_cl dc_cl pm_cl ct_cl : Value}
    {cd_cl : Value}
    {f_cw : Addr} {od_cw an_cw : Option Addr} {sl_cw : Array (Option Value)} {oc_cw kV_cw dc_cw pm_cw ct_cw : Value}
    {cd_cw : Value}
    {f_cc : Addr} {od_cc an_cc : Option Addr} {sl_cc : Array (Option Value)} {oc_cc kV_cc dc_cc pm_cc ct_cc : Value}
    {cd_cc : Value}
    {f_cs : Addr} {od_cs an_cs : Option Addr} {sl_cs : Array (Option Value)} {oc_cs kV_cs dc_cs pm_cs ct_cs : Value}
    {cd_cs : Value}
    {f_pi : Addr} {od_pi an_pi : Option Addr} {sl_pi : Array (Option Value)} {oc_pi kV_pi dc_pi pm_pi cd_pi ct_pi : Value}
    {f_me : Addr} {od_me an_me : Option Addr} {sl_me : Array (Option Value)} {oc_me kV_me dc_me pm_me cd_me ct_me : Value}
    {f_pa : Addr} {od_pa an_pa : Option Addr} {sl_pa : Array (Option Value)} {oc_pa kV_pa dc_pa pm_pa cd_pa ct_pa : Value}
    {f_pg : Addr} {od_pg an_pg : Option Addr} {sl_pg : Array (Option Value)} {oc_pg kV_pg dc_pg pm_pg ct_pg : Value}
    {cd_pg : Value}
    {f_ct : Addr} {od_ct an_ct : Option Addr} {sl_ct : Array (Option Value)} {oc_ct kV_ct dc_ct pm_ct ct_ct : Value}
    {cd_ct : Value}
    {f_md : Addr} {od_md an_md : Option Addr} {sl_md : Array (Option Value)} {oc_md kV_md dc_md pm_md ct_md : Value}
    {cd_md : Value}
    {f_su : Addr} {od_su an_su : Option Addr} {sl_su : Array (Option Value)} {oc_su kV_su dc_su pm_su ct_su : Value}
    {cd_su : Value}
    {f_so : Addr} {od_so an_so : Option Addr} {sl_so : Array (Option Value)} {oc_so kV_so dc_so pm_so ct_so : Value}
    {cd_so : Value}
    {f_dr : Addr} {od_dr an_dr : Option Addr} {sl_dr : Array (Option Value)} {oc_dr kV_dr dc_dr pm_dr ct_dr : Value}
    {cd_dr : Value}
    {f_pk : Addr} {od_pk an_pk : Option Addr} {sl_pk : Array (Option Value)} {oc_pk kV_pk dc_pk pm_pk ct_pk : Value}
    {cd_pk : Value}
    {f_sz : Addr} {od_sz an_sz : Option Addr} {sl_sz : Array (Option Value)} {oc_sz kV_sz dc_sz pm_sz ct_sz : Value}
    {cd_sz : Value}
    {f_nu : Addr} {od_nu an_nu : Option Addr} {sl_nu : Array (Option Value)} {oc_nu kV_nu dc_nu pm_nu ct_nu : Value}
    {cd_nu : Value}
    {f_sp : Addr} {od_sp an_sp : Option Addr} {sl_sp : Array (Option Value)} {oc_sp kV_sp dc_sp pm_sp ct_sp : Value}
    {cd_sp : Value}
    {f_co : Addr} {od_co an_co : Option Addr} {sl_co : Array (Option Value)} {oc_co kV_co dc_co pm_co ct_co : Value}
    {cd_co : Value}
    {f_lp : Addr} {od_lp an_lp : Option Addr} {sl_lp : Array (Option Value)} {oc_lp kV_lp dc_lp pm_lp ct_lp : Value}
    {cd_lp : Value}
    {f_lm : Addr} {od_lm an_lm : Option Addr} {sl_lm : Array (Option Value)} {oc_lm kV_lm dc_lm pm_lm ct_lm : Value}
    {cd_lm : Value}
    {f_ls : Addr} {od_ls an_ls : Option Addr} {sl_ls : Array (Option Value)} {oc_ls kV_ls dc_ls pm_ls ct_ls : Value}
    {cd_ls : Value}
    {f_rf : Addr} {od_rf an_rf : Option Addr} {sl_rf : Array (Option Value)} {oc_rf kV_rf dc_rf pm_rf ct_rf : Value}
    {cd_rf : Value}
    {f_lo : Addr} {od_lo an_lo : Option Addr} {sl_lo : Array (Option Value)} {oc_lo kV_lo dc_lo pm_lo ct_lo : Value}
    {c_lo : Addr}
    {P_lo : Addr} {e_lo : Option Addr} {v_lo : Array Value} {u_lo : Array (Option Value)} {fl_lo : Str} {tf_lo tg_lo tt_lo : Tok} {gg_lo tx_lo : Int} {inf_lo : Bool}
    {f_ri : Addr} {od_ri an_ri : Option Addr} {sl_ri : Array (Option Value)} {oc_ri kV_ri dc_ri pm_ri ct_ri : Value}
    {c_ri : Addr}
    {P_ri : Addr} {e_ri : Option Addr} {v_ri : Array Value} {u_ri : Array (Option Value)} {fl_ri : Str} {tf_ri tg_ri tt_ri : Tok} {gg_ri tx_ri : Int} {inf_ri : Bool}
    {f_la : Addr} {od_la an_la : Option Addr} {sl_la : Array (Option Value)} {oc_la kV_la dc_la pm_la ct_la : Value}
    {cd_la : Value}
    (a_CS : PySem.W.nsIn K mainGlobals "StoreError" = some (some (.ref CS)))
    (a_CB : PySem.W.nsIn K mainGlobals "BadCount" = some (some (.ref CB)))
    (x_CB : K.lookup CB = some (excClassObj nm_CB qn_CB CB N_CB bs_CB bm_CB true sn_CB sub_CB ab_CB col_CB dd_CB m0_CB m1_CB m2_CB m3_CB m5_CB "ValueError.__new__"))
    (bm_CB' : PySem.HandSPX.refsVE bm_CB = true)
    (sa_CB : PySem.W.findIn K (.ref CB) "__setattr__" = some (some (.builtin "object.__setattr__")))
    (ga_CB : PySem.W.findIn K (.ref CB) "__getattribute__" = some (some (.builtin "BaseException.__getattribute__")))
    (gg_CB : PySem.W.findIn K (.ref CB) "__getattr__" = some none)
    (kC_CB : PySem.W.keepIn K (.ref CB) = true)
    (eC_CB : PySem.W.subIn K (.ref CB) (.type "BaseException") = some true)
    (tC_CB : PySem.W.typeIn K (.ref CB) = some (.type "type"))
    (hC_CB : PySem.W.hasDictIn K CB = true)
    (iC_CB : PySem.W.isClsIn K CB = true)
    (sC_CB : PySem.W.subIn K (.ref CB) (.ref CB) = some true)
    (n_CB_what : PySem.W.findIn K (.ref CB) "what" = some none)
    (n_CB_count : PySem.W.findIn K (.ref CB) "count" = some none)
    (a_badI : PySem.W.findIn K (.ref CB) "__init__" = some (some (.ref f_badI)))
    (t_badI : PySem.W.typeIn K (.ref f_badI) = some (.type "function"))
    (l_badI : K.lookup f_badI = some ⟨oc_badI, od_badI, .func (PySem.W.fnOf "__init__" "BadCount.__init__" (defArgs sBadI) (defBody sBadI) (defScope sBadI) .none kV_badI dc_badI pm_badI an_badI cd_badI ct_badI), sl_badI⟩)
    (c_of_badI : PySem.W.codeIn K cd_badI "BadCount.__init__" = true)
    (k_badI : PySem.W.keepIn K (.ref f_badI) = true)
    (a_CL : PySem.W.nsIn K mainGlobals "NoLine" = some (some (.ref CL)))
    (x_CL : K.lookup CL = some (excClassObj nm_CL qn_CL CL N_CL bs_CL bm_CL true sn_CL sub_CL ab_CL col_CL dd_CL m0_CL m1_CL m2_CL m3_CL m5_CL "ValueError.__new__"))
    (bm_CL' : PySem.HandSPX.refsVE bm_CL = true)
    (sa_CL : PySem.W.findIn K (.ref CL) "__setattr__" = some (some (.builtin "object.__setattr__")))
    (ga_CL : PySem.W.findIn K (.ref CL) "__getattribute__" = some (some (.builtin "BaseException.__getattribute__")))
    (gg_CL : PySem.W.findIn K (.ref CL) "__getattr__" = some none)
    (kC_CL : PySem.W.keepIn K (.ref CL) = true)
    (eC_CL : PySem.W.subIn K (.ref CL) (.type "BaseException") = some true)
    (tC_CL : PySem.W.typeIn K (.ref CL) = some (.type "type"))
    (hC_CL : PySem.W.hasDictIn K CL = true)
    (iC_CL : PySem.W.isClsIn K CL = true)
    (sC_CL : PySem.W.subIn K (.ref CL) (.ref CL) = some true)
    (n_CL_line : PySem.W.findIn K (.ref CL) "line" = some none)
    (a_nlI : PySem.W.findIn K (.ref CL) "__init__" = some (some (.ref f_nlI)))
    (t_nlI : PySem.W.typeIn K (.ref f_nlI) = some (.type "function"))
    (l_nlI : K.lookup f_nlI = some ⟨oc_nlI, od_nlI, .func (PySem.W.fnOf "__init__" "NoLine.__init__" (defArgs snlI) (defBody snlI) (defScope snlI) .none kV_nlI dc_nlI pm_nlI an_nlI cd_nlI ct_nlI), sl_nlI⟩)
    (c_of_nlI : PySem.W.codeIn K cd_nlI "NoLine.__init__" = true)
    (k_nlI : PySem.W.keepIn K (.ref f_nlI) = true)
    (a_CW : PySem.W.nsIn K mainGlobals "NoWord" = some (some (.ref CW)))
    (x_CW : K.lookup CW = some (excClassObj nm_CW qn_CW CW N_CW bs_CW bm_CW true sn_CW sub_CW ab_CW col_CW dd_CW m0_CW m1_CW m2_CW m3_CW m5_CW "ValueError.__new__"))
    (bm_CW' : PySem.HandSPX.refsVE bm_CW = true)
    (sa_CW : PySem.W.findIn K (.ref CW) "__setattr__" = some (some (.builtin "object.__setattr__")))
    (ga_CW : PySem.W.findIn K (.ref CW) "__getattribute__" = some (some (.builtin "BaseException.__getattribute__")))
    (gg_CW : PySem.W.findIn K (.ref CW) "__getattr__" = some none)
    (kC_CW : PySem.W.keepIn K (.ref CW) = true)
    (eC_CW : PySem.W.subIn K (.ref CW) (.type "BaseException") = some true)
    (tC_CW : PySem.W.typeIn K (.ref CW) = some (.type "type"))
    (hC_CW : PySem.W.hasDictIn K CW = true)
    (iC_CW : PySem.W.isClsIn K CW = true)
    (sC_CW : PySem.W.subIn K (.ref CW) (.ref CW) = some true)
    (n_CW_word : PySem.W.findIn K (.ref CW) "word" = some none)
    (a_nwI : PySem.W.findIn K (.ref CW) "__init__" = some (some (.ref f_nwI)))
    (t_nwI : PySem.W.typeIn K (.ref f_nwI) = some (.type "function"))
    (l_nwI : K.lookup f_nwI = some ⟨oc_nwI, od_nwI, .func (PySem.W.fnOf "__init__" "NoWord.__init__" (defArgs snwI) (defBody snwI) (defScope snwI) .none kV_nwI dc_nwI pm_nwI an_nwI cd_nwI ct_nwI), sl_nwI⟩)
    (c_of_nwI : PySem.W.codeIn K cd_nwI "NoWord.__init__" = true)
    (k_nwI : PySem.W.keepIn K (.ref f_nwI) = true)
    (a_CN : PySem.W.nsIn K mainGlobals "NoTime" = some (some (.ref CN)))
    (x_CN : K.lookup CN = some (excClassObj nm_CN qn_CN CN N_CN bs_CN bm_CN true sn_CN sub_CN ab_CN col_CN dd_CN m0_CN m1_CN m2_CN m3_CN m5_CN "ValueError.__new__"))
    (bm_CN' : PySem.HandSPX.refsVE bm_CN = true)
    (sa_CN : PySem.W.findIn K (.ref CN) "__setattr__" = some (some (.builtin "object.__setattr__")))
    (ga_CN : PySem.W.findIn K (.ref CN) "__getattribute__" = some (some (.builtin "BaseException.__getattribute__")))
    (gg_CN : PySem.W.findIn K (.ref CN) "__getattr__" = some none)
    (kC_CN : PySem.W.keepIn K (.ref CN) = true)
    (eC_CN : PySem.W.subIn K (.ref CN) (.type "BaseException") = some true)
    (tC_CN : PySem.W.typeIn K (.ref CN) = some (.type "type"))
    (hC_CN : PySem.W.hasDictIn K CN = true)
    (iC_CN : PySem.W.isClsIn K CN = true)
    (sC_CN : PySem.W.subIn K (.ref CN) (.ref CN) = some true)
    (n_CN_time : PySem.W.findIn K (.ref CN) "time" = some none)
    (a_ntI : PySem.W.findIn K (.ref CN) "__init__" = some (some (.ref f_ntI)))
    (t_ntI : PySem.W.typeIn K (.ref f_ntI) = some (.type "function"))
    (l_ntI : K.lookup f_ntI = some ⟨oc_ntI, od_ntI, .func (PySem.W.fnOf "__init__" "NoTime.__init__" (defArgs sntI) (defBody sntI) (defScope sntI) .none kV_ntI dc_ntI pm_ntI an_ntI cd_ntI ct_ntI), sl_ntI⟩)
    (c_of_ntI : PySem.W.codeIn K cd_ntI "NoTime.__init__" = true)
    (k_ntI : PySem.W.keepIn K (.ref f_ntI) = true)
    (z_abs : PySem.W.nsIn K mainGlobals "abs" = some none)
    (z_len : PySem.W.nsIn K mainGlobals "len" = some none)
    (z_range : PySem.W.nsIn K mainGlobals "range" = some none)
    (z_tuple : PySem.W.nsIn K mainGlobals "tuple" = some none)
    (z_list : PySem.W.nsIn K mainGlobals "list" = some none)
    (z_max : PySem.W.nsIn K mainGlobals "max" = some none)
    (z_isinstance : PySem.W.nsIn K mainGlobals "isinstance" = some none)
    (g_MOST_LINES : PySem.W.nsIn K mainGlobals "MOST_LINES" = some (some (.int 6 t_MOST_LINES)))
    (g_MOST_WORDS : PySem.W.nsIn K mainGlobals "MOST_WORDS" = some (some (.int 4 t_MOST_WORDS)))
    (g_MOST_COMMANDS : PySem.W.nsIn K mainGlobals "MOST_COMMANDS" = some (some (.int 200 t_MOST_COMMANDS)))
    (a_CM : PySem.W.nsIn K mainGlobals "Memory" = some (some (.ref CM)))
    (pg_CM : PySem.W.plainGet K CM Str.empty = true)
    (hd_CM : PySem.W.hasDictIn K CM = true)
    (po_CM : PySem.W.plainOver K CM = true)
    (sa_CM : PySem.W.findIn K (.ref CM) "__setattr__" = some (some (.builtin "object.__setattr__")))
    (mk_CM : PySem.W.makesIn K CM = true)
    (kc_CM : PySem.W.keepIn K (.ref CM) = true)
    (n_CM_sizes : PySem.W.findIn K (.ref CM) "sizes" = some none)
    (a_CT : PySem.W.nsIn K mainGlobals "Store" = some (some (.ref CT)))
    (pg_CT : PySem.W.plainGet K CT Str.empty = true)
    (hd_CT : PySem.W.hasDictIn K CT = true)
    (po_CT : PySem.W.plainOver K CT = true)
    (sa_CT : PySem.W.findIn K (.ref CT) "__setattr__" = some (some (.builtin "object.__setattr__")))
    (mk_CT : PySem.W.makesIn K CT = true)
    (kc_CT : PySem.W.keepIn K (.ref CT) = true)
    (n_CT_line : PySem.W.findIn K (.ref CT) "line" = some none)
    (n_CT_word : PySem.W.findIn K (.ref CT) "word" = some none)
    (n_CT_number : PySem.W.findIn K (.ref CT) "number" = some none)
    (a_CF : PySem.W.nsIn K mainGlobals "Flush" = some (some (.ref CF)))
    (pg_CF : PySem.W.plainGet K CF Str.empty = true)
    (hd_CF : PySem.W.hasDictIn K CF = true)
    (po_CF : PySem.W.plainOver K CF = true)
    (sa_CF : PySem.W.findIn K (.ref CF) "__setattr__" = some (some (.builtin "object.__setattr__")))
    (mk_CF : PySem.W.makesIn K CF = true)
    (kc_CF : PySem.W.keepIn K (.ref CF) = true)
    (n_CF_line : PySem.W.findIn K (.ref CF) "line" = some none)
    (a_CP : PySem.W.nsIn K mainGlobals "Program" = some (some (.ref CP)))
    (pg_CP : PySem.W.plainGet K CP Str.empty = true)
    (hd_CP : PySem.W.hasDictIn K CP = true)
    (po_CP : PySem.W.plainOver K CP = true)
    (sa_CP : PySem.W.findIn K (.ref CP) "__setattr__" = some (some (.builtin "object.__setattr__")))
    (mk_CP : PySem.W.makesIn K CP = true)
    (kc_CP : PySem.W.keepIn K (.ref CP) = true)
    (n_CP_memory : PySem.W.findIn K (.ref CP) "memory" = some none)
    (n_CP_commands : PySem.W.findIn K (.ref CP) "commands" = some none)
    (a_CE : PySem.W.nsIn K mainGlobals "Fence" = some (some (.ref CE)))
    (pg_CE : PySem.W.plainGet K CE Str.empty = true)
    (hd_CE : PySem.W.hasDictIn K CE = true)
    (po_CE : PySem.W.plainOver K CE = true)
    (sa_CE : PySem.W.findIn K (.ref CE) "__setattr__" = some (some (.builtin "object.__setattr__")))
    (mk_CE : PySem.W.makesIn K CE = true)
    (kc_CE : PySem.W.keepIn K (.ref CE) = true)
    (ie_CE : PySem.W.findIn K (.ref CE) "__init__" = some (some (.builtin "object.__init__")))
    (bi_n : PySem.W.specialIn K (.builtin "object.__class__") "__get__" = some (some (.builtin "getset_descriptor.__get__")))
    (bi_t : PySem.W.takesIn K (.builtin "object.__class__") = some true)
    (oh_CM : PySem.W.findIn K (.ref CM) "__class__" = some (some (.builtin "object.__class__")))
    (om_CM : PySem.W.mroIn K CM (.type "object") = some true)
    (oh_CT : PySem.W.findIn K (.ref CT) "__class__" = some (some (.builtin "object.__class__")))
    (om_CT : PySem.W.mroIn K CT (.type "object") = some true)
    (oh_CF : PySem.W.findIn K (.ref CF) "__class__" = some (some (.builtin "object.__class__")))
    (om_CF : PySem.W.mroIn K CF (.type "object") = some true)
    (oh_CE : PySem.W.findIn K (.ref CE) "__class__" = some (some (.builtin "object.__class__")))
    (om_CE : PySem.W.mroIn K CE (.type "object") = some true)
    (kc1_CT : PySem.W.isClsIn K CT = true)
    (kc2_CT : PySem.W.typeIn K (.ref CT) = some (.type "type"))
    (kc1_CF : PySem.W.isClsIn K CF = true)
    (kc2_CF : PySem.W.typeIn K (.ref CF) = some (.type "type"))
    (sb_CF_CT : PySem.W.subIn K (.ref CF) (.ref CT) = some false)
    (nq_CF_CT : CF ≠ CT)
    (sb_CE_CT : PySem.W.subIn K (.ref CE) (.ref CT) = some false)
    (nq_CE_CT : CE ≠ CT)
    (sb_CT_CF : PySem.W.subIn K (.ref CT) (.ref CF) = some false)
    (nq_CT_CF : CT ≠ CF)
    (sb_CE_CF : PySem.W.subIn K (.ref CE) (.ref CF) = some false)
    (nq_CE_CF : CE ≠ CF)
    (ne_PE : CP ≠ CE)
    (a_ck : PySem.W.nsIn K mainGlobals "check_sizes" = some (some (.ref f_ck)))
    (l_ck : K.lookup f_ck = some ⟨oc_ck, od_ck, .func (PySem.W.fnOf "check_sizes" "check_sizes" (defArgs sChk) (defBody sChk) (defScope sChk) .none kV_ck dc_ck pm_ck an_ck cd_ck ct_ck), sl_ck⟩)
    (c_of_ck : PySem.W.codeIn K cd_ck "check_sizes" = true)
    (k_ck : PySem.W.keepIn K (.ref f_ck) = true)
    (a_mi : PySem.W.findIn K (.ref CM) "__init__" = some (some (.ref f_mi)))
    (i_mi : PySem.W.isFn K (.ref f_mi) = true)
    (l_mi : K.lookup f_mi = some ⟨oc_mi, od_mi, .func (PySem.W.fnOf "__init__" "Memory.__init__" (defArgs sMemI) (defBody sMemI) (defScope sMemI) .none kV_mi dc_mi pm_mi an_mi cd_mi ct_mi), sl_mi⟩)
    (c_of_mi : PySem.W.codeIn K cd_mi "Memory.__init__" = true)
    (k_mi : PySem.W.keepIn K (.ref f_mi) = true)
    (a_si : PySem.W.findIn K (.ref CT) "__init__" = some (some (.ref f_si)))
    (i_si : PySem.W.isFn K (.ref f_si) = true)
    (l_si : K.lookup f_si = some ⟨oc_si, od_si, .func (PySem.W.fnOf "__init__" "Store.__init__" (defArgs sStoreI) (defBody sStoreI) (defScope sStoreI) .none kV_si dc_si pm_si an_si cd_si ct_si), sl_si⟩)
    (c_of_si : PySem.W.codeIn K cd_si "Store.__init__" = true)
    (k_si : PySem.W.keepIn K (.ref f_si) = true)
    (a_fi : PySem.W.findIn K (.ref CF) "__init__" = some (some (.ref f_fi)))
    (i_fi : PySem.W.isFn K (.ref f_fi) = true)
    (l_fi : K.lookup f_fi = some ⟨oc_fi, od_fi, .func (PySem.W.fnOf "__init__" "Flush.__init__" (defArgs sFlushI) (defBody sFlushI) (defScope sFlushI) .none kV_fi dc_fi pm_fi an_fi cd_fi ct_fi), sl_fi⟩)
    (c_of_fi : PySem.W.codeIn K cd_fi "Flush.__init__" = true)
    (k_fi : PySem.W.keepIn K (.ref f_fi) = true)
    (a_cl : PySem.W.nsIn K mainGlobals "check_line" = some (some (.ref f_cl)))
    (l_cl : K.lookup f_cl = some ⟨oc_cl, od_cl, .func (PySem.W.fnOf "check_line" "check_line" (defArgs sLine) (defBody sLine) (defScope sLine) .none kV_cl dc_cl pm_cl an_cl cd_cl ct_cl), sl_cl⟩)
    (c_of_cl : PySem.W.codeIn K cd_cl "check_line" = true)
    (k_cl : PySem.W.keepIn K (.ref f_cl) = true)
    (a_cw : PySem.W.nsIn K mainGlobals "check_word" = some (some (.ref f_cw)))
    (l_cw : K.lookup f_cw = some ⟨oc_cw, od_cw, .func (PySem.W.fnOf "check_word" "check_word" (defArgs sWord) (defBody sWord) (defScope sWord) .none kV_cw dc_cw pm_cw an_cw cd_cw ct_cw), sl_cw⟩)
    (c_of_cw : PySem.W.codeIn K cd_cw "check_word" = true)
    (k_cw : PySem.W.keepIn K (.ref f_cw) = true)
    (a_cc : PySem.W.nsIn K mainGlobals "check_command" = some (some (.ref f_cc)))
    (l_cc : K.lookup f_cc = some ⟨oc_cc, od_cc, .func (PySem.W.fnOf "check_command" "check_command" (defArgs sCmd) (defBody sCmd) (defScope sCmd) .none kV_cc dc_cc pm_cc an_cc cd_cc ct_cc), sl_cc⟩)
    (c_of_cc : PySem.W.codeIn K cd_cc "check_command" = true)
    (k_cc : PySem.W.keepIn K (.ref f_cc) = true)
    (a_cs : PySem.W.nsIn K mainGlobals "check_commands" = some (some (.ref f_cs)))
    (l_cs : K.lookup f_cs = some ⟨oc_cs, od_cs, .func (PySem.W.fnOf "check_commands" "check_commands" (defArgs sCmds) (defBody sCmds) (defScope sCmds) .none kV_cs dc_cs pm_cs an_cs cd_cs ct_cs), sl_cs⟩)
    (c_of_cs : PySem.W.codeIn K cd_cs "check_commands" = true)
    (k_cs : PySem.W.keepIn K (.ref f_cs) = true)
    (a_pi : PySem.W.findIn K (.ref CP) "__init__" = some (some (.ref f_pi)))
    (i_pi : PySem.W.isFn K (.ref f_pi) = true)
    (l_pi : K.lookup f_pi = some ⟨oc_pi, od_pi, .func (PySem.W.fnOf "__init__" "Program.__init__" (defArgs sProgI) (defBody sProgI) (defScope sProgI) .none kV_pi dc_pi pm_pi an_pi cd_pi ct_pi), sl_pi⟩)
    (c_of_pi : PySem.W.codeIn K cd_pi "Program.__init__" = true)
    (k_pi : PySem.W.keepIn K (.ref f_pi) = true)
    (a_me : PySem.W.findIn K (.ref CM) "__eq__" = some (some (.ref f_me)))
    (i_me : PySem.W.isFn K (.ref f_me) = true)
    (l_me : K.lookup f_me = some ⟨oc_me, od_me, .func (PySem.W.fnOf "__eq__" "Memory.__eq__" (defArgs sMemE) (defBody sMemE) (defScope sMemE) .none kV_me dc_me pm_me an_me cd_me ct_me), sl_me⟩)
    (c_of_me : PySem.W.codeIn K cd_me "Memory.__eq__" = true)
    (k_me : PySem.W.keepIn K (.ref f_me) = true)
    (hne_CM : PySem.W.findIn K (.ref CM) "__ne__" = some (some (.builtin "object.__ne__")))
    (a_pa : PySem.W.findIn K (.ref CP) "__add__" = some (some (.ref f_pa)))
    (i_pa : PySem.W.isFn K (.ref f_pa) = true)
    (l_pa : K.lookup f_pa = some ⟨oc_pa, od_pa, .func (PySem.W.fnOf "__add__" "Program.__add__" (defArgs sProgA) (defBody sProgA) (defScope sProgA) .none kV_pa dc_pa pm_pa an_pa cd_pa ct_pa), sl_pa⟩)
    (c_of_pa : PySem.W.codeIn K cd_pa "Program.__add__" = true)
    (k_pa : PySem.W.keepIn K (.ref f_pa) = true)
    (sf_CP : PySem.W.selfFirst K CP = true)
    (a_pg : PySem.W.nsIn K mainGlobals "progress" = some (some (.ref f_pg)))
    (l_pg : K.lookup f_pg = some ⟨oc_pg, od_pg, .func (PySem.W.fnOf "progress" "progress" (defArgs sPrg) (defBody sPrg) (defScope sPrg) .none kV_pg dc_pg pm_pg an_pg cd_pg ct_pg), sl_pg⟩)
    (c_of_pg : PySem.W.codeIn K cd_pg "progress" = true)
    (k_pg : PySem.W.keepIn K (.ref f_pg) = true)
    (a_ct : PySem.W.nsIn K mainGlobals "check_time" = some (some (.ref f_ct)))
    (l_ct : K.lookup f_ct = some ⟨oc_ct, od_ct, .func (PySem.W.fnOf "check_time" "check_time" (defArgs sTime) (defBody sTime) (defScope sTime) .none kV_ct dc_ct pm_ct an_ct cd_ct ct_ct), sl_ct⟩)
    (c_of_ct : PySem.W.codeIn K cd_ct "check_time" = true)
    (k_ct : PySem.W.keepIn K (.ref f_ct) = true)
    (a_md : PySem.W.nsIn K mainGlobals "made" = some (some (.ref f_md)))
    (l_md : K.lookup f_md = some ⟨oc_md, od_md, .func (PySem.W.fnOf "made" "made" (defArgs sMade) (defBody sMade) (defScope sMade) .none kV_md dc_md pm_md an_md cd_md ct_md), sl_md⟩)
    (c_of_md : PySem.W.codeIn K cd_md "made" = true)
    (k_md : PySem.W.keepIn K (.ref f_md) = true)
    (a_su : PySem.W.nsIn K mainGlobals "sure" = some (some (.ref f_su)))
    (l_su : K.lookup f_su = some ⟨oc_su, od_su, .func (PySem.W.fnOf "sure" "sure" (defArgs sSure) (defBody sSure) (defScope sSure) .none kV_su dc_su pm_su an_su cd_su ct_su), sl_su⟩)
    (c_of_su : PySem.W.codeIn K cd_su "sure" = true)
    (k_su : PySem.W.keepIn K (.ref f_su) = true)
    (a_so : PySem.W.nsIn K mainGlobals "_law_source" = some (some (.ref f_so)))
    (l_so : K.lookup f_so = some ⟨oc_so, od_so, .func (PySem.W.fnOf "_law_source" "_law_source" (defArgs sSource) (defBody sSource) (defScope sSource) .none kV_so dc_so pm_so an_so cd_so ct_so), sl_so⟩)
    (c_of_so : PySem.W.codeIn K cd_so "_law_source" = true)
    (k_so : PySem.W.keepIn K (.ref f_so) = true)
    (a_dr : PySem.W.nsIn K mainGlobals "_law_draw" = some (some (.ref f_dr)))
    (l_dr : K.lookup f_dr = some ⟨oc_dr, od_dr, .func (PySem.W.fnOf "_law_draw" "_law_draw" (defArgs sDraw) (defBody sDraw) (defScope sDraw) .none kV_dr dc_dr pm_dr an_dr cd_dr ct_dr), sl_dr⟩)
    (c_of_dr : PySem.W.codeIn K cd_dr "_law_draw" = true)
    (k_dr : PySem.W.keepIn K (.ref f_dr) = true)
    (a_pk : PySem.W.nsIn K mainGlobals "_law_pick" = some (some (.ref f_pk)))
    (l_pk : K.lookup f_pk = some ⟨oc_pk, od_pk, .func (PySem.W.fnOf "_law_pick" "_law_pick" (defArgs sPick) (defBody sPick) (defScope sPick) .none kV_pk dc_pk pm_pk an_pk cd_pk ct_pk), sl_pk⟩)
    (c_of_pk : PySem.W.codeIn K cd_pk "_law_pick" = true)
    (k_pk : PySem.W.keepIn K (.ref f_pk) = true)
    (a_sz : PySem.W.nsIn K mainGlobals "_law_sizes" = some (some (.ref f_sz)))
    (l_sz : K.lookup f_sz = some ⟨oc_sz, od_sz, .func (PySem.W.fnOf "_law_sizes" "_law_sizes" (defArgs sSizes) (defBody sSizes) (defScope sSizes) .none kV_sz dc_sz pm_sz an_sz cd_sz ct_sz), sl_sz⟩)
    (c_of_sz : PySem.W.codeIn K cd_sz "_law_sizes" = true)
    (k_sz : PySem.W.keepIn K (.ref f_sz) = true)
    (a_nu : PySem.W.nsIn K mainGlobals "_law_number" = some (some (.ref f_nu)))
    (l_nu : K.lookup f_nu = some ⟨oc_nu, od_nu, .func (PySem.W.fnOf "_law_number" "_law_number" (defArgs sNum) (defBody sNum) (defScope sNum) .none kV_nu dc_nu pm_nu an_nu cd_nu ct_nu), sl_nu⟩)
    (c_of_nu : PySem.W.codeIn K cd_nu "_law_number" = true)
    (k_nu : PySem.W.keepIn K (.ref f_nu) = true)
    (a_sp : PySem.W.nsIn K mainGlobals "_law_specs" = some (some (.ref f_sp)))
    (l_sp : K.lookup f_sp = some ⟨oc_sp, od_sp, .func (PySem.W.fnOf "_law_specs" "_law_specs" (defArgs sSpecs) (defBody sSpecs) (defScope sSpecs) .none kV_sp dc_sp pm_sp an_sp cd_sp ct_sp), sl_sp⟩)
    (c_of_sp : PySem.W.codeIn K cd_sp "_law_specs" = true)
    (k_sp : PySem.W.keepIn K (.ref f_sp) = true)
    (a_co : PySem.W.nsIn K mainGlobals "_law_command" = some (some (.ref f_co)))
    (l_co : K.lookup f_co = some ⟨oc_co, od_co, .func (PySem.W.fnOf "_law_command" "_law_command" (defArgs sComm) (defBody sComm) (defScope sComm) .none kV_co dc_co pm_co an_co cd_co ct_co), sl_co⟩)
    (c_of_co : PySem.W.codeIn K cd_co "_law_command" = true)
    (k_co : PySem.W.keepIn K (.ref f_co) = true)
    (a_lp : PySem.W.nsIn K mainGlobals "_law_program" = some (some (.ref f_lp)))
    (l_lp : K.lookup f_lp = some ⟨oc_lp, od_lp, .func (PySem.W.fnOf "_law_program" "_law_program" (defArgs sLProg) (defBody sLProg) (defScope sLProg) .none kV_lp dc_lp pm_lp an_lp cd_lp ct_lp), sl_lp⟩)
    (c_of_lp : PySem.W.codeIn K cd_lp "_law_program" = true)
    (k_lp : PySem.W.keepIn K (.ref f_lp) = true)
    (a_lm : PySem.W.nsIn K mainGlobals "_law_made" = some (some (.ref f_lm)))
    (l_lm : K.lookup f_lm = some ⟨oc_lm, od_lm, .func (PySem.W.fnOf "_law_made" "_law_made" (defArgs sLMade) (defBody sLMade) (defScope sLMade) .none kV_lm dc_lm pm_lm an_lm cd_lm ct_lm), sl_lm⟩)
    (c_of_lm : PySem.W.codeIn K cd_lm "_law_made" = true)
    (k_lm : PySem.W.keepIn K (.ref f_lm) = true)
    (a_ls : PySem.W.nsIn K mainGlobals "_law_sure" = some (some (.ref f_ls)))
    (l_ls : K.lookup f_ls = some ⟨oc_ls, od_ls, .func (PySem.W.fnOf "_law_sure" "_law_sure" (defArgs sLSure) (defBody sLSure) (defScope sLSure) .none kV_ls dc_ls pm_ls an_ls cd_ls ct_ls), sl_ls⟩)
    (c_of_ls : PySem.W.codeIn K cd_ls "_law_sure" = true)
    (k_ls : PySem.W.keepIn K (.ref f_ls) = true)
    (a_rf : PySem.W.nsIn K mainGlobals "_law_refused" = some (some (.ref f_rf)))
    (l_rf : K.lookup f_rf = some ⟨oc_rf, od_rf, .func (PySem.W.fnOf "_law_refused" "_law_refused" (defArgs sRef) (defBody sRef) (defScope sRef) .none kV_rf dc_rf pm_rf an_rf cd_rf ct_rf), sl_rf⟩)
    (c_of_rf : PySem.W.codeIn K cd_rf "_law_refused" = true)
    (k_rf : PySem.W.keepIn K (.ref f_rf) = true)
    (a_lo : PySem.W.nsIn K mainGlobals "_law_long_right" = some (some (.ref f_lo)))
    (l_lo : K.lookup f_lo = some ⟨oc_lo, od_lo, .func (PySem.W.fnOf "_law_long_right" "_law_long_right" (defArgs sLong) (defBody sLong) (defScope sLong) .none kV_lo dc_lo pm_lo an_lo (.ref c_lo) ct_lo), sl_lo⟩)
    (c_of_lo : PySem.W.codeIn K (.ref c_lo) "_law_long_right" = true)
    (k_lo : PySem.W.keepIn K (.ref f_lo) = true)
    (lc_lo : K.lookup c_lo = some ⟨.type "code", e_lo, .fields v_lo, u_lo⟩)
    (v11_lo : v_lo[11]? = some (.ref P_lo))
    (v18_lo : v_lo.getD 18 .none = .str fl_lo tf_lo)
    (v7_lo : v_lo.getD 7 .none = .int gg_lo tg_lo)
    (v9_lo : v_lo.getD 9 .none = .bool inf_lo)
    (v10_lo : v_lo.getD 10 .none = .int tx_lo tt_lo)
    (ne_lo : c_lo ≠ P_lo)
    (nP_lo : K.lookup P_lo = none)
    (tP_lo : P_lo ∈ ts)
    (a_ri : PySem.W.nsIn K mainGlobals "_law_right" = some (some (.ref f_ri)))
    (l_ri : K.lookup f_ri = some ⟨oc_ri, od_ri, .func (PySem.W.fnOf "_law_right" "_law_right" (defArgs sRight) (defBody sRight) (defScope sRight) .none kV_ri dc_ri pm_ri an_ri (.ref c_ri) ct_ri), sl_ri⟩)
    (c_of_ri : PySem.W.codeIn K (.ref c_ri) "_law_right" = true)
    (k_ri : PySem.W.keepIn K (.ref f_ri) = true)
    (lc_ri : K.lookup c_ri = some ⟨.type "code", e_ri, .fields v_ri, u_ri⟩)
    (v11_ri : v_ri[11]? = some (.ref P_ri))
    (v18_ri : v_ri.getD 18 .none = .str fl_ri tf_ri)
    (v7_ri : v_ri.getD 7 .none = .int gg_ri tg_ri)
    (v9_ri : v_ri.getD 9 .none = .bool inf_ri)
    (v10_ri : v_ri.getD 10 .none = .int tx_ri tt_ri)
    (ne_ri : c_ri ≠ P_ri)
    (nP_ri : K.lookup P_ri = none)
    (tP_ri : P_ri ∈ ts)
    (nP_rl : P_ri ≠ P_lo)
    (a_la : PySem.W.nsIn K mainGlobals "law" = some (some (.ref f_la)))
    (l_la : K.lookup f_la = some ⟨oc_la, od_la, .func (PySem.W.fnOf "law" "law" (defArgs sLaw) (defBody sLaw) (defScope sLaw) .none kV_la dc_la pm_la an_la cd_la ct_la), sl_la⟩)
    (c_of_la : PySem.W.codeIn K cd_la "law" = true)
    (k_la : PySem.W.keepIn K (.ref f_la) = true) :
    LawAtS l w K CX0 12 63 "_law_script" mg fa h := by
  have e := hfa.symm.trans (PySem.W.mg_of X G a_la)
  cases e
  have code_ri : PySem.W.CodeHd h c_ri P_ri := ⟨_, v_ri, _, _, _, _, _, _, _, X _ _ lc_ri, rfl, rfl, v11_ri, by rw [Array.getD_eq_getD_getElem?, v11_ri]; rfl, v18_ri, v7_ri, v9_ri, v10_ri, ne_ri⟩
  have code_lo : PySem.W.CodeHd h c_lo P_lo := ⟨_, v_lo, _, _, _, _, _, _, _, X _ _ lc_lo, rfl, rfl, v11_lo, by rw [Array.getD_eq_getD_getElem?, v11_lo]; rfl, v18_lo, v7_lo, v9_lo, v10_lo, ne_lo⟩
  have FbadI := fun_mk (st := sBadI) l_badI c_of_badI k_badI
  have FnlI := fun_mk (st := snlI) l_nlI c_of_nlI k_nlI
  have FnwI := fun_mk (st := snwI) l_nwI c_of_nwI k_nwI
  have FntI := fun_mk (st := sntI) l_ntI c_of_ntI k_ntI
  have Fck := fun_mk (st := sChk) l_ck c_of_ck k_ck
  have Fmi := fun_mk (st := sMemI) l_mi c_of_mi k_mi
  have Fsi := fun_mk (st := sStoreI) l_si c_of_si k_si
  have Ffi := fun_mk (st := sFlushI) l_fi c_of_fi k_fi
  have Fcl := fun_mk (st := sLine) l_cl c_of_cl k_cl
  have Fcw := fun_mk (st := sWord) l_cw c_of_cw k_cw
  have Fcc := fun_mk (st := sCmd) l_cc c_of_cc k_cc
  have Fcs := fun_mk (st := sCmds) l_cs c_of_cs k_cs
  have Fpi := fun_mk (st := sProgI) l_pi c_of_pi k_pi
  have Fme := fun_mk (st := sMemE) l_me c_of_me k_me
  have Fpa := fun_mk (st := sProgA) l_pa c_of_pa k_pa
  have Fpg := fun_mk (st := sPrg) l_pg c_of_pg k_pg
  have Fct := fun_mk (st := sTime) l_ct c_of_ct k_ct
  have Fmd := fun_mk (st := sMade) l_md c_of_md k_md
  have Fsu := fun_mk (st := sSure) l_su c_of_su k_su
  have Fso := fun_mk (st := sSource) l_so c_of_so k_so
  have Fdr := fun_mk (st := sDraw) l_dr c_of_dr k_dr
  have Fpk := fun_mk (st := sPick) l_pk c_of_pk k_pk
  have Fsz := fun_mk (st := sSizes) l_sz c_of_sz k_sz
  have Fnu := fun_mk (st := sNum) l_nu c_of_nu k_nu
  have Fsp := fun_mk (st := sSpecs) l_sp c_of_sp k_sp
  have Fco := fun_mk (st := sComm) l_co c_of_co k_co
  have Flp := fun_mk (st := sLProg) l_lp c_of_lp k_lp
  have Flm := fun_mk (st := sLMade) l_lm c_of_lm k_lm
  have Fls := fun_mk (st := sLSure) l_ls c_of_ls k_ls
  have Frf := fun_mk (st := sRef) l_rf c_of_rf k_rf
  have Fla := fun_mk (st := sLaw) l_la c_of_la k_la
  refine ⟨PySem.W.fnOf "law" "law" (defArgs sLaw) (defBody sLaw) (defScope sLaw) .none kV_la dc_la pm_la an_la cd_la ct_la, [(c_ri, P_ri), (c_lo, P_lo)], spLaw K (tabs5 P_ri P_lo), ?_, ?_, ?_, fun s u => .of_eq (by rfl), ?_, fun base Kb Gb TBs => ?_⟩
  · intro p hp
    simp only [List.mem_cons, List.not_mem_nil, or_false] at hp
    rcases hp with rfl | rfl
    · exact hT _ tP_ri
    · exact hT _ tP_lo
  · intro p hp
    simp only [List.mem_cons, List.not_mem_nil, or_false] at hp
    rcases hp with rfl | rfl
    · exact nP_ri
    · exact nP_lo
  · intro p hp
    simp only [List.mem_cons, List.not_mem_nil, or_false] at hp
    rcases hp with rfl | rfl
    · exact code_ri
    · exact code_lo
  · intro H a ns hl _ ht hS
    refine ⟨a, ns, rfl, hS, hl, fun p hp => ?_, fun _ => rfl⟩
    simp only [tabs5, List.mem_cons, List.not_mem_nil, or_false] at hp
    rcases hp with rfl | rfl
    · exact TabS.nil (ht (c_ri, P_ri) (by simp))
    · exact TabS.nil (ht (c_lo, P_lo) (by simp))
  · have oCB : OexC K CB := ⟨⟨nm_CB, qn_CB, N_CB, bs_CB, bm_CB, sn_CB, sub_CB, ab_CB, col_CB, dd_CB, m0_CB, m1_CB, m2_CB, m3_CB, m5_CB, x_CB, bm_CB'⟩, sa_CB, eC_CB, tC_CB, kC_CB⟩
    have ECB : Err l.prog w K mg base "BadCount" CB 1 ["self", "what", "count"] (spInit2 CB "what" "count") :=
      ⟨oCB, _, _, a_badI, t_badI, ok_badI FbadI oCB n_CB_what n_CB_count, PySem.W.mg_of X G a_CB, FbadI.binds (ps := ["self", "what", "count"]) fun _ _ _ _ _ _ us hl => match us, hl with | [_, _, _], _ => rfl⟩
    have oCL : OexC K CL := ⟨⟨nm_CL, qn_CL, N_CL, bs_CL, bm_CL, sn_CL, sub_CL, ab_CL, col_CL, dd_CL, m0_CL, m1_CL, m2_CL, m3_CL, m5_CL, x_CL, bm_CL'⟩, sa_CL, eC_CL, tC_CL, kC_CL⟩
    have ECL : Err l.prog w K mg base "NoLine" CL 1 ["self", "line"] (spInit1 CL "line") :=
      ⟨oCL, _, _, a_nlI, t_nlI, ok_nlI FnlI oCL n_CL_line, PySem.W.mg_of X G a_CL, FnlI.binds (ps := ["self", "line"]) fun _ _ _ _ _ _ us hl => match us, hl with | [_, _], _ => rfl⟩
    have oCW : OexC K CW := ⟨⟨nm_CW, qn_CW, N_CW, bs_CW, bm_CW, sn_CW, sub_CW, ab_CW, col_CW, dd_CW, m0_CW, m1_CW, m2_CW, m3_CW, m5_CW, x_CW, bm_CW'⟩, sa_CW, eC_CW, tC_CW, kC_CW⟩
    have ECW : Err l.prog w K mg base "NoWord" CW 1 ["self", "word"] (spInit1 CW "word") :=
      ⟨oCW, _, _, a_nwI, t_nwI, ok_nwI FnwI oCW n_CW_word, PySem.W.mg_of X G a_CW, FnwI.binds (ps := ["self", "word"]) fun _ _ _ _ _ _ us hl => match us, hl with | [_, _], _ => rfl⟩
    have oCN : OexC K CN := ⟨⟨nm_CN, qn_CN, N_CN, bs_CN, bm_CN, sn_CN, sub_CN, ab_CN, col_CN, dd_CN, m0_CN, m1_CN, m2_CN, m3_CN, m5_CN, x_CN, bm_CN'⟩, sa_CN, eC_CN, tC_CN, kC_CN⟩
    have ECN : Err l.prog w K mg base "NoTime" CN 1 ["self", "time"] (spInit1 CN "time") :=
      ⟨oCN, _, _, a_ntI, t_ntI, ok_ntI FntI oCN n_CN_time, PySem.W.mg_of X G a_CN, FntI.binds (ps := ["self", "time"]) fun _ _ _ _ _ _ us hl => match us, hl with | [_, _], _ => rfl⟩
    have cCM : Cls K CM := ⟨pg_CM, hd_CM, po_CM, sa_CM⟩
    have cCT : Cls K CT := ⟨pg_CT, hd_CT, po_CT, sa_CT⟩
    have cCF : Cls K CF := ⟨pg_CF, hd_CF, po_CF, sa_CF⟩
    have cCE : Cls K CE := ⟨pg_CE, hd_CE, po_CE, sa_CE⟩
    have cCP : Cls K CP := ⟨pg_CP, hd_CP, po_CP, sa_CP⟩
    have wCM : OwnC K CM := ⟨cCM, oh_CM, bi_n, bi_t, om_CM⟩
    have wCT : OwnC K CT := ⟨cCT, oh_CT, bi_n, bi_t, om_CT⟩
    have wCF : OwnC K CF := ⟨cCF, oh_CF, bi_n, bi_t, om_CF⟩
    have wCE : OwnC K CE := ⟨cCE, oh_CE, bi_n, bi_t, om_CE⟩
    let d : Ad := ⟨CT, CF, CE, CM, CP, CB, CL, CW, CN⟩
    have TP : TProg K mg d :=
      ⟨PySem.W.mg_none_of X G z_len, PySem.W.mg_none_of X G z_isinstance, PySem.W.mg_none_of X G z_tuple, PySem.W.mg_none_of X G z_list, ⟨_, PySem.W.mg_of X G g_MOST_COMMANDS⟩, PySem.W.mg_of X G a_CT, PySem.W.mg_of X G a_CF, cCM, cCP, n_CM_sizes, n_CP_memory, n_CP_commands,
        fun c => (match c with | .store _ _ _ => wCT | .flush _ => wCF | .fence => wCE),
        fun c => (match c with | .store _ _ _ => kit_self | .flush _ => kit_no nq_CF_CT kc1_CT kc2_CT sb_CF_CT | .fence => kit_no nq_CE_CT kc1_CT kc2_CT sb_CE_CT),
        fun c => (match c with | .store _ _ _ => kit_no nq_CT_CF kc1_CF kc2_CF sb_CT_CF | .flush _ => kit_self | .fence => kit_no nq_CE_CF kc1_CF kc2_CF sb_CE_CF),
        n_CT_line, n_CT_word, n_CT_number, n_CF_line, ne_PE⟩
    have TM : TMem K mg CM := ⟨PySem.W.mg_none_of X G z_tuple, cCM, n_CM_sizes⟩
    have Cck : Cal l.prog w K mg base (L2.CX l.prog w) "check_sizes" 3 ["sizes"] (spChkSizes K CB) :=
      ⟨_, _, ok_chk Fck ⟨PySem.W.mg_none_of X G z_len, ⟨_, PySem.W.mg_of X G g_MOST_LINES⟩, ⟨_, PySem.W.mg_of X G g_MOST_WORDS⟩⟩ ECB, PySem.W.mg_of X G a_ck, k_ck, Fck.binds (ps := ["sizes"]) fun _ _ _ _ _ _ us hl => match us, hl with | [_], _ => rfl⟩
    have Mmi : Mak l.prog w K mg base (L2.CX l.prog w) "Memory" CM 4 ["self", "sizes"] (spMemInit K CB CM) :=
      ⟨_, _, ⟨mk_CM, a_mi, i_mi, kc_CM⟩, ok_memI Fmi TM Cck, PySem.W.mg_of X G a_CM, Fmi.binds (ps := ["self", "sizes"]) fun _ _ _ _ _ _ us hl => match us, hl with | [_, _], _ => rfl⟩
    have Msi : Mak l.prog w K mg base CX0 "Store" CT 1 ["self", "line", "word", "number"] (spStoreI d) :=
      ⟨_, _, ⟨mk_CT, a_si, i_si, kc_CT⟩, ok_storeI Fsi cCT n_CT_line n_CT_word n_CT_number, PySem.W.mg_of X G a_CT, Fsi.binds (ps := ["self", "line", "word", "number"]) fun _ _ _ _ _ _ us hl => match us, hl with | [_, _, _, _], _ => rfl⟩
    have Mfi : Mak l.prog w K mg base CX0 "Flush" CF 1 ["self", "line"] (spFlushI d) :=
      ⟨_, _, ⟨mk_CF, a_fi, i_fi, kc_CF⟩, ok_flushI Ffi cCF n_CF_line, PySem.W.mg_of X G a_CF, Ffi.binds (ps := ["self", "line"]) fun _ _ _ _ _ _ us hl => match us, hl with | [_, _], _ => rfl⟩
    have BF : Bare K mg "Fence" CE := ⟨PySem.W.mg_of X G a_CE, mk_CE, ie_CE, kc_CE, om_CE⟩
    have Ccl : Cal l.prog w K mg base (L2.CX l.prog w) "check_line" 3 ["memory", "line"] (spLine d) :=
      ⟨_, _, ok_line Fcl TP ECL, PySem.W.mg_of X G a_cl, k_cl, Fcl.binds (ps := ["memory", "line"]) fun _ _ _ _ _ _ us hl => match us, hl with | [_, _], _ => rfl⟩
    have Ccw : Cal l.prog w K mg base (L2.CX l.prog w) "check_word" 4 ["memory", "line", "word"] (spWord d) :=
      ⟨_, _, ok_word Fcw TP Ccl ECW, PySem.W.mg_of X G a_cw, k_cw, Fcw.binds (ps := ["memory", "line", "word"]) fun _ _ _ _ _ _ us hl => match us, hl with | [_, _, _], _ => rfl⟩
    have Ccc : Cal l.prog w K mg base (L2.CX l.prog w) "check_command" 5 ["memory", "command"] (spCmd d) :=
      ⟨_, _, ok_cmd Fcc TP Ccl Ccw, PySem.W.mg_of X G a_cc, k_cc, Fcc.binds (ps := ["memory", "command"]) fun _ _ _ _ _ _ us hl => match us, hl with | [_, _], _ => rfl⟩
    have Ccs : Cal l.prog w K mg base (L2.CX l.prog w) "check_commands" 6 ["memory", "commands"] (spCmds d K) :=
      ⟨_, _, ok_cmds Fcs TP ECB Ccc, PySem.W.mg_of X G a_cs, k_cs, Fcs.binds (ps := ["memory", "commands"]) fun _ _ _ _ _ _ us hl => match us, hl with | [_, _], _ => rfl⟩
    have Mpi : Mak l.prog w K mg base (L2.CX l.prog w) "Program" CP 7 ["self", "memory", "commands"] (spProgI d K) :=
      ⟨_, _, ⟨mk_CP, a_pi, i_pi, kc_CP⟩, ok_progI Fpi TP Ccs, PySem.W.mg_of X G a_CP, Fpi.binds (ps := ["self", "memory", "commands"]) fun _ _ _ _ _ _ us hl => match us, hl with | [_, _, _], _ => rfl⟩
    have Dme : Dun l.prog w K mg base CX0 CM "__eq__" 1 ["self", "other"] (spMemEq d) :=
      ⟨_, _, ok_memE Fme TP (PySem.W.mg_of X G a_CM) wCM, a_me, i_me, Fme.binds (ps := ["self", "other"]) fun _ _ _ _ _ _ us hl => match us, hl with | [_, _], _ => rfl⟩
    have Dpa : Dun l.prog w K mg base (L2.CX l.prog w) CP "__add__" 9 ["self", "other"] (spAdd d) :=
      ⟨_, _, ok_progA Fpa TP Dme hne_CM om_CM Mpi, a_pa, i_pa, Fpa.binds (ps := ["self", "other"]) fun _ _ _ _ _ _ us hl => match us, hl with | [_, _], _ => rfl⟩
    have Cpg : Cal l.prog w K mg base CX0 "progress" 1 ["program"] (spProgress d) :=
      ⟨_, _, ok_prg Fpg TP, PySem.W.mg_of X G a_pg, k_pg, Fpg.binds (ps := ["program"]) fun _ _ _ _ _ _ us hl => match us, hl with | [_], _ => rfl⟩
    have Cct : Cal l.prog w K mg base (L2.CX l.prog w) "check_time" 3 ["program", "time"] (spTime d) :=
      ⟨_, _, ok_time Fct TP ECN, PySem.W.mg_of X G a_ct, k_ct, Fct.binds (ps := ["program", "time"]) fun _ _ _ _ _ _ us hl => match us, hl with | [_, _], _ => rfl⟩
    have Cmd : Cal l.prog w K mg base (L2.CX l.prog w) "made" 4 ["program", "time"] (spAt d Pg.d) :=
      ⟨_, _, ok_made Fmd Cct Cpg, PySem.W.mg_of X G a_md, k_md, Fmd.binds (ps := ["program", "time"]) fun _ _ _ _ _ _ us hl => match us, hl with | [_, _], _ => rfl⟩
    have Csu : Cal l.prog w K mg base (L2.CX l.prog w) "sure" 4 ["program", "time"] (spAt d Pg.s) :=
      ⟨_, _, ok_sure Fsu Cct Cpg, PySem.W.mg_of X G a_su, k_su, Fsu.binds (ps := ["program", "time"]) fun _ _ _ _ _ _ us hl => match us, hl with | [_, _], _ => rfl⟩
    have Cso : Cal l.prog w K mg base CX0 "_law_source" 1 ["_law_cell"] spSource :=
      ⟨_, _, ok_source Fso ⟨PySem.W.mg_none_of X G z_abs⟩, PySem.W.mg_of X G a_so, k_so, Fso.binds (ps := ["_law_cell"]) fun _ _ _ _ _ _ us hl => match us, hl with | [_], _ => rfl⟩
    have Cdr : Cal l.prog w K mg base CX0 "_law_draw" 1 ["_law_source_here", "_law_many"] spDraw :=
      ⟨_, _, ok_draw Fdr, PySem.W.mg_of X G a_dr, k_dr, Fdr.binds (ps := ["_law_source_here", "_law_many"]) fun _ _ _ _ _ _ us hl => match us, hl with | [_, _], _ => rfl⟩
    have Cpk : Cal l.prog w K mg base CX0 "_law_pick" 2 ["_law_source_here", "_law_items"] (spPick K) :=
      ⟨_, _, ok_pick Fpk ⟨PySem.W.mg_none_of X G z_len⟩ Cdr, PySem.W.mg_of X G a_pk, k_pk, Fpk.binds (ps := ["_law_source_here", "_law_items"]) fun _ _ _ _ _ _ us hl => match us, hl with | [_, _], _ => rfl⟩
    have Csz : Cal l.prog w K mg base CX0 "_law_sizes" 2 ["_law_source_here", "_law_most"] spSizes :=
      ⟨_, _, ok_sizes Fsz ⟨PySem.W.mg_none_of X G z_range⟩ Cdr, PySem.W.mg_of X G a_sz, k_sz, Fsz.binds (ps := ["_law_source_here", "_law_most"]) fun _ _ _ _ _ _ us hl => match us, hl with | [_, _], _ => rfl⟩
    have Cnu : Cal l.prog w K mg base CX0 "_law_number" 3 ["_law_source_here"] spNumber :=
      ⟨_, _, ok_num Fnu Cdr Cpk, PySem.W.mg_of X G a_nu, k_nu, Fnu.binds (ps := ["_law_source_here"]) fun _ _ _ _ _ _ us hl => match us, hl with | [_], _ => rfl⟩
    have Csp : Cal l.prog w K mg base CX0 "_law_specs" 4 ["_law_source_here", "_law_sizes_so", "_law_least", "_law_most"] spSpecs :=
      ⟨_, _, ok_specs Fsp ⟨PySem.W.mg_none_of X G z_range⟩ ⟨PySem.W.mg_none_of X G z_len⟩ Cdr Cpk Cnu, PySem.W.mg_of X G a_sp, k_sp, Fsp.binds (ps := ["_law_source_here", "_law_sizes_so", "_law_least", "_law_most"]) fun _ _ _ _ _ _ us hl => match us, hl with | [_, _, _, _], _ => rfl⟩
    have Cco : Cal l.prog w K mg base CX0 "_law_command" 3 ["_law_spec"] (spCommand d) :=
      ⟨_, _, ok_comm Fco Msi Mfi BF, PySem.W.mg_of X G a_co, k_co, Fco.binds (ps := ["_law_spec"]) fun _ _ _ _ _ _ us hl => match us, hl with | [_], _ => rfl⟩
    have Clp : Cal l.prog w K mg base CX0 "_law_program" 9 ["_law_sizes_so", "_law_specs_here"] (spProgram d) :=
      ⟨_, _, ok_lprog Flp Mmi Mpi Cco, PySem.W.mg_of X G a_lp, k_lp, Flp.binds (ps := ["_law_sizes_so", "_law_specs_here"]) fun _ _ _ _ _ _ us hl => match us, hl with | [_, _], _ => rfl⟩
    have TL : TLMade mg := ⟨PySem.W.mg_none_of X G z_range, PySem.W.mg_none_of X G z_tuple, PySem.W.mg_none_of X G z_len, PySem.W.mg_none_of X G z_max⟩
    have Clm : Cal l.prog w K mg base CX0 "_law_made" 1 ["_law_specs_here", "_law_size", "_law_time_so"] spLMade :=
      ⟨_, _, ok_lmade Flm TL, PySem.W.mg_of X G a_lm, k_lm, Flm.binds (ps := ["_law_specs_here", "_law_size", "_law_time_so"]) fun _ _ _ _ _ _ us hl => match us, hl with | [_, _, _], _ => rfl⟩
    have Cls : Cal l.prog w K mg base CX0 "_law_sure" 3 ["_law_specs_here", "_law_size", "_law_time_so"] spLSure :=
      ⟨_, _, ok_lsure Fls TL Clm, PySem.W.mg_of X G a_ls, k_ls, Fls.binds (ps := ["_law_specs_here", "_law_size", "_law_time_so"]) fun _ _ _ _ _ _ us hl => match us, hl with | [_, _, _], _ => rfl⟩
    have TR : TRefd K mg d CS := ⟨⟨ga_CN, gg_CN, eC_CN, hC_CN⟩, n_CN_time, PySem.W.mg_of X G a_CN, PySem.W.mg_of X G a_CS, exm_self eC_CN iC_CN tC_CN sC_CN⟩
    have hTabs : True := trivial
    have hu_ri : ∀ p ∈ tabs5 P_ri P_lo, p.1 = P_ri → p.2 = (("_law_right" : Str) ++ ".<locals>.") ++ "<lambda>" := fun p hp z => by
      simp only [tabs5, List.mem_cons, List.not_mem_nil, or_false] at hp
      rcases hp with rfl | rfl
      · rfl
      · exact absurd z.symm nP_rl
    have hu_lo : ∀ p ∈ tabs5 P_ri P_lo, p.1 = P_lo → p.2 = (("_law_long_right" : Str) ++ ".<locals>.") ++ "<lambda>" := fun p hp z => by
      simp only [tabs5, List.mem_cons, List.not_mem_nil, or_false] at hp
      rcases hp with rfl | rfl
      · exact absurd z nP_rl
      · rfl
    have TB_ri := TBs (c_ri, P_ri) (by simp)
    have TB_lo := TBs (c_lo, P_lo) (by simp)
    have CR : Cal l.prog w K mg base CX0 "_law_right" 11 ["_law_source_here"] (spRightT (tabs5 P_ri P_lo)) :=
      ⟨_, _, ok_right l_ri c_of_ri TB_ri (by simp [tabs5]) hu_ri TL Cdr Cpk Csz Csp Clp Clm Cls Cmd Csu Frf (PySem.W.mg_of X G a_rf) (Frf.binds (ps := ["_law_call"]) fun _ _ _ _ _ _ us hl => match us, hl with | [_], _ => rfl) TR Dpa sf_CP (PySem.W.mg_none_of X G z_isinstance), PySem.W.mg_of X G a_ri, k_ri, (fun_mk (st := sRight) l_ri c_of_ri k_ri).binds (ps := ["_law_source_here"]) fun _ _ _ _ _ _ us hl => match us, hl with | [_], _ => rfl⟩
    have CO : Cal l.prog w K mg base CX0 "_law_long_right" 11 ["_law_source_here"] (spLong (tabs5 P_ri P_lo)) :=
      ⟨_, _, ok_long l_lo c_of_lo TB_lo (by simp [tabs5]) hu_lo TL Cdr Cpk Csz Csp Clp Clm Cls Cmd Csu Frf (PySem.W.mg_of X G a_rf) (Frf.binds (ps := ["_law_call"]) fun _ _ _ _ _ _ us hl => match us, hl with | [_], _ => rfl) TR, PySem.W.mg_of X G a_lo, k_lo, (fun_mk (st := sLong) l_lo c_of_lo k_lo).binds (ps := ["_law_source_here"]) fun _ _ _ _ _ _ us hl => match us, hl with | [_], _ => rfl⟩
    exact ok_law Fla Cso CR CO
end Q
open PySem PySem.W PyProof.Rows
set_option maxRecDepth 100000 in
set_option maxHeartbeats 0 in
theorem PySem.Challenge.cw_lateststore_k05_made_and_sure_stores_holds : PySem.Challenge.rw_lateststore_k05_made_and_sure_stores.Holds := by
  w_on; o_law; k_head; (case hw => w_witness2)
  k_fill
  refine LamX.walk_ofTs (l := PySem.Challenge.rw_lateststore_k05_made_and_sure_stores) (n := 63) (k := 12) (x := "_law_script") (CX := fun _ => L2.CX0) rfl (by decide) rfl ⟨rfl, by decide, by decide⟩ (fun w h Y => PySem.W.km_in_of Y) ?F (fun _ _ _ _ _ z => z)
  case F =>
    intro w mg fa h Y KX G hmg
    refine' Q.all_mk (ts := _) KX G hmg (PySem.W.km_tabs_of Y) ?a_CS ?a_CB ?x_CB ?bm_CB' ?sa_CB ?ga_CB ?gg_CB ?kC_CB ?eC_CB ?tC_CB ?hC_CB ?iC_CB ?sC_CB ?n_CB_what ?n_CB_count ?a_badI ?t_badI ?l_badI ?c_of_badI ?k_badI ?a_CL ?x_CL ?bm_CL' ?sa_CL ?ga_CL ?gg_CL ?kC_CL ?eC_CL ?tC_CL ?hC_CL ?iC_CL ?sC_CL ?n_CL_line ?a_nlI ?t_nlI ?l_nlI ?c_of_nlI ?k_nlI ?a_CW ?x_CW ?bm_CW' ?sa_CW ?ga_CW ?gg_CW ?kC_CW ?eC_CW ?tC_CW ?hC_CW ?iC_CW ?sC_CW ?n_CW_word ?a_nwI ?t_nwI ?l_nwI ?c_of_nwI ?k_nwI ?a_CN ?x_CN ?bm_CN' ?sa_CN ?ga_CN ?gg_CN ?kC_CN ?eC_CN ?tC_CN ?hC_CN ?iC_CN ?sC_CN ?n_CN_time ?a_ntI ?t_ntI ?l_ntI ?c_of_ntI ?k_ntI ?z_abs ?z_len ?z_range ?z_tuple ?z_list ?z_max ?z_isinstance ?g_MOST_LINES ?g_MOST_WORDS ?g_MOST_COMMANDS ?a_CM ?pg_CM ?hd_CM ?po_CM ?sa_CM ?mk_CM ?kc_CM ?n_CM_sizes ?a_CT ?pg_CT ?hd_CT ?po_CT ?sa_CT ?mk_CT ?kc_CT ?n_CT_line ?n_CT_word ?n_CT_number ?a_CF ?pg_CF ?hd_CF ?po_CF ?sa_CF ?mk_CF ?kc_CF ?n_CF_line ?a_CP ?pg_CP ?hd_CP ?po_CP ?sa_CP ?mk_CP ?kc_CP ?n_CP_memory ?n_CP_commands ?a_CE ?pg_CE ?hd_CE ?po_CE ?sa_CE ?mk_CE ?kc_CE ?ie_CE ?bi_n ?bi_t ?oh_CM ?om_CM ?oh_CT ?om_CT ?oh_CF ?om_CF ?oh_CE ?om_CE ?kc1_CT ?kc2_CT ?kc1_CF ?kc2_CF ?sb_CF_CT ?nq_CF_CT ?sb_CE_CT ?nq_CE_CT ?sb_CT_CF ?nq_CT_CF ?sb_CE_CF ?nq_CE_CF ?ne_PE ?a_ck ?l_ck ?c_of_ck ?k_ck ?a_mi ?i_mi ?l_mi ?c_of_mi ?k_mi ?a_si ?i_si ?l_si ?c_of_si ?k_si ?a_fi ?i_fi ?l_fi ?c_of_fi ?k_fi ?a_cl ?l_cl ?c_of_cl ?k_cl ?a_cw ?l_cw ?c_of_cw ?k_cw ?a_cc ?l_cc ?c_of_cc ?k_cc ?a_cs ?l_cs ?c_of_cs ?k_cs ?a_pi ?i_pi ?l_pi ?c_of_pi ?k_pi ?a_me ?i_me ?l_me ?c_of_me ?k_me ?hne_CM ?a_pa ?i_pa ?l_pa ?c_of_pa ?k_pa ?sf_CP ?a_pg ?l_pg ?c_of_pg ?k_pg ?a_ct ?l_ct ?c_of_ct ?k_ct ?a_md ?l_md ?c_of_md ?k_md ?a_su ?l_su ?c_of_su ?k_su ?a_so ?l_so ?c_of_so ?k_so ?a_dr ?l_dr ?c_of_dr ?k_dr ?a_pk ?l_pk ?c_of_pk ?k_pk ?a_sz ?l_sz ?c_of_sz ?k_sz ?a_nu ?l_nu ?c_of_nu ?k_nu ?a_sp ?l_sp ?c_of_sp ?k_sp ?a_co ?l_co ?c_of_co ?k_co ?a_lp ?l_lp ?c_of_lp ?k_lp ?a_lm ?l_lm ?c_of_lm ?k_lm ?a_ls ?l_ls ?c_of_ls ?k_ls ?a_rf ?l_rf ?c_of_rf ?k_rf ?a_lo ?l_lo ?c_of_lo ?k_lo ?lc_lo ?v11_lo ?v18_lo ?v7_lo ?v9_lo ?v10_lo ?ne_lo ?nP_lo ?tP_lo ?a_ri ?l_ri ?c_of_ri ?k_ri ?lc_ri ?v11_ri ?v18_ri ?v7_ri ?v9_ri ?v10_ri ?ne_ri ?nP_ri ?tP_ri ?nP_rl ?a_la ?l_la ?c_of_la ?k_la
    (case a_CS => k_is)
    (case a_CB => k_is)
    (case x_CB => k_is)
    (case bm_CB' => decide +kernel)
    (case sa_CB => k_is)
    (case ga_CB => k_is)
    (case gg_CB => k_is)
    (case kC_CB => k_is)
    (case eC_CB => k_is)
    (case tC_CB => k_is)
    (case hC_CB => k_is)
    (case iC_CB => k_is)
    (case sC_CB => first | rfl | k_is)
    (case n_CB_what => k_is)
    (case n_CB_count => k_is)
    (case a_badI => k_is)
    (case t_badI => k_is)
    (case l_badI => k_is)
    (case c_of_badI => k_is)
    (case k_badI => k_is)
    (case a_CL => k_is)
    (case x_CL => k_is)
    (case bm_CL' => decide +kernel)
    (case sa_CL => k_is)
    (case ga_CL => k_is)
    (case gg_CL => k_is)
    (case kC_CL => k_is)
    (case eC_CL => k_is)
    (case tC_CL => k_is)
    (case hC_CL => k_is)
    (case iC_CL => k_is)
    (case sC_CL => first | rfl | k_is)
    (case n_CL_line => k_is)
    (case a_nlI => k_is)
    (case t_nlI => k_is)
    (case l_nlI => k_is)
    (case c_of_nlI => k_is)
    (case k_nlI => k_is)
    (case a_CW => k_is)
    (case x_CW => k_is)
    (case bm_CW' => decide +kernel)
    (case sa_CW => k_is)
    (case ga_CW => k_is)
    (case gg_CW => k_is)
    (case kC_CW => k_is)
    (case eC_CW => k_is)
    (case tC_CW => k_is)
    (case hC_CW => k_is)
    (case iC_CW => k_is)
    (case sC_CW => first | rfl | k_is)
    (case n_CW_word => k_is)
    (case a_nwI => k_is)
    (case t_nwI => k_is)
    (case l_nwI => k_is)
    (case c_of_nwI => k_is)
    (case k_nwI => k_is)
    (case a_CN => k_is)
    (case x_CN => k_is)
    (case bm_CN' => decide +kernel)
    (case sa_CN => k_is)
    (case ga_CN => k_is)
    (case gg_CN => k_is)
    (case kC_CN => k_is)
    (case eC_CN => k_is)
    (case tC_CN => k_is)
    (case hC_CN => k_is)
    (case iC_CN => k_is)
    (case sC_CN => first | rfl | k_is)
    (case n_CN_time => k_is)
    (case a_ntI => k_is)
    (case t_ntI => k_is)
    (case l_ntI => k_is)
    (case c_of_ntI => k_is)
    (case k_ntI => k_is)
    (case z_abs => k_is)
    (case z_len => k_is)
    (case z_range => k_is)
    (case z_tuple => k_is)
    (case z_list => k_is)
    (case z_max => k_is)
    (case z_isinstance => k_is)
    (case g_MOST_LINES => k_is)
    (case g_MOST_WORDS => k_is)
    (case g_MOST_COMMANDS => k_is)
    (case a_CM => k_is)
    (case pg_CM => k_is)
    (case hd_CM => k_is)
    (case po_CM => k_is)
    (case sa_CM => k_is)
    (case mk_CM => k_is)
    (case kc_CM => k_is)
    (case n_CM_sizes => k_is)
    (case a_CT => k_is)
    (case pg_CT => k_is)
    (case hd_CT => k_is)
    (case po_CT => k_is)
    (case sa_CT => k_is)
    (case mk_CT => k_is)
    (case kc_CT => k_is)
    (case n_CT_line => k_is)
    (case n_CT_word => k_is)
    (case n_CT_number => k_is)
    (case a_CF => k_is)
    (case pg_CF => k_is)
    (case hd_CF => k_is)
    (case po_CF => k_is)
    (case sa_CF => k_is)
    (case mk_CF => k_is)
    (case kc_CF => k_is)
    (case n_CF_line => k_is)
    (case a_CP => k_is)
    (case pg_CP => k_is)
    (case hd_CP => k_is)
    (case po_CP => k_is)
    (case sa_CP => k_is)
    (case mk_CP => k_is)
    (case kc_CP => k_is)
    (case n_CP_memory => k_is)
    (case n_CP_commands => k_is)
    (case a_CE => k_is)
    (case pg_CE => k_is)
    (case hd_CE => k_is)
    (case po_CE => k_is)
    (case sa_CE => k_is)
    (case mk_CE => k_is)
    (case kc_CE => k_is)
    (case ie_CE => k_is)
    (case bi_n => k_is)
    (case bi_t => k_is)
    (case oh_CM => k_is)
    (case om_CM => k_is)
    (case oh_CT => k_is)
    (case om_CT => k_is)
    (case oh_CF => k_is)
    (case om_CF => k_is)
    (case oh_CE => k_is)
    (case om_CE => k_is)
    (case kc1_CT => k_is)
    (case kc2_CT => k_is)
    (case kc1_CF => k_is)
    (case kc2_CF => k_is)
    (case sb_CF_CT => first | rfl | k_is)
    (case nq_CF_CT => decide)
    (case sb_CE_CT => first | rfl | k_is)
    (case nq_CE_CT => decide)
    (case sb_CT_CF => first | rfl | k_is)
    (case nq_CT_CF => decide)
    (case sb_CE_CF => first | rfl | k_is)
    (case nq_CE_CF => decide)
    (case ne_PE => decide)
    (case a_ck => k_is)
    (case l_ck => k_is)
    (case c_of_ck => k_is)
    (case k_ck => k_is)
    (case a_mi => k_is)
    (case i_mi => k_is)
    (case l_mi => k_is)
    (case c_of_mi => k_is)
    (case k_mi => k_is)
    (case a_si => k_is)
    (case i_si => k_is)
    (case l_si => k_is)
    (case c_of_si => k_is)
    (case k_si => k_is)
    (case a_fi => k_is)
    (case i_fi => k_is)
    (case l_fi => k_is)
    (case c_of_fi => k_is)
    (case k_fi => k_is)
    (case a_cl => k_is)
    (case l_cl => k_is)
    (case c_of_cl => k_is)
    (case k_cl => k_is)
    (case a_cw => k_is)
    (case l_cw => k_is)
    (case c_of_cw => k_is)
    (case k_cw => k_is)
    (case a_cc => k_is)
    (case l_cc => k_is)
    (case c_of_cc => k_is)
    (case k_cc => k_is)
    (case a_cs => k_is)
    (case l_cs => k_is)
    (case c_of_cs => k_is)
    (case k_cs => k_is)
    (case a_pi => k_is)
    (case i_pi => k_is)
    (case l_pi => k_is)
    (case c_of_pi => k_is)
    (case k_pi => k_is)
    (case a_me => k_is)
    (case i_me => k_is)
    (case l_me => k_is)
    (case c_of_me => k_is)
    (case k_me => k_is)
    (case hne_CM => k_is)
    (case a_pa => k_is)
    (case i_pa => k_is)
    (case l_pa => k_is)
    (case c_of_pa => k_is)
    (case k_pa => k_is)
    (case sf_CP => k_is)
    (case a_pg => k_is)
    (case l_pg => k_is)
    (case c_of_pg => k_is)
    (case k_pg => k_is)
    (case a_ct => k_is)
    (case l_ct => k_is)
    (case c_of_ct => k_is)
    (case k_ct => k_is)
    (case a_md => k_is)
    (case l_md => k_is)
    (case c_of_md => k_is)
    (case k_md => k_is)
    (case a_su => k_is)
    (case l_su => k_is)
    (case c_of_su => k_is)
    (case k_su => k_is)
    (case a_so => k_is)
    (case l_so => k_is)
    (case c_of_so => k_is)
    (case k_so => k_is)
    (case a_dr => k_is)
    (case l_dr => k_is)
    (case c_of_dr => k_is)
    (case k_dr => k_is)
    (case a_pk => k_is)
    (case l_pk => k_is)
    (case c_of_pk => k_is)
    (case k_pk => k_is)
    (case a_sz => k_is)
    (case l_sz => k_is)
    (case c_of_sz => k_is)
    (case k_sz => k_is)
    (case a_nu => k_is)
    (case l_nu => k_is)
    (case c_of_nu => k_is)
    (case k_nu => k_is)
    (case a_sp => k_is)
    (case l_sp => k_is)
    (case c_of_sp => k_is)
    (case k_sp => k_is)
    (case a_co => k_is)
    (case l_co => k_is)
    (case c_of_co => k_is)
    (case k_co => k_is)
    (case a_lp => k_is)
    (case l_lp => k_is)
    (case c_of_lp => k_is)
    (case k_lp => k_is)
    (case a_lm => k_is)
    (case l_lm => k_is)
    (case c_of_lm => k_is)
    (case k_lm => k_is)
    (case a_ls => k_is)
    (case l_ls => k_is)
    (case c_of_ls => k_is)
    (case k_ls => k_is)
    (case a_rf => k_is)
    (case l_rf => k_is)
    (case c_of_rf => k_is)
    (case k_rf => k_is)
    (case a_lo => k_is)
    (case l_lo => k_is)
    (case c_of_lo => k_is)
    (case k_lo => k_is)
    (case lc_lo => k_is)
    (case v11_lo => rfl)
    (case v18_lo => rfl)
    (case v7_lo => rfl)
    (case v9_lo => rfl)
    (case v10_lo => rfl)
    (case ne_lo => decide)
    (case nP_lo => rfl)
    (case tP_lo => decide)
    (case a_ri => k_is)
    (case l_ri => k_is)
    (case c_of_ri => k_is)
    (case k_ri => k_is)
    (case lc_ri => k_is)
    (case v11_ri => rfl)
    (case v18_ri => rfl)
    (case v7_ri => rfl)
    (case v9_ri => rfl)
    (case v10_ri => rfl)
    (case ne_ri => decide)
    (case nP_ri => rfl)
    (case tP_ri => decide)
    (case nP_rl => decide)
    (case a_la => k_is)
    (case l_la => k_is)
    (case c_of_la => k_is)
    (case k_la => k_is)
